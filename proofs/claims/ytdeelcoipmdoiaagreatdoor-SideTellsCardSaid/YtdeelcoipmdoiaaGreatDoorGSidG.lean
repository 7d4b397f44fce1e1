/- A part. -/
import Derived.Test.YtdeelcoipmdoiaaGreatDoorGVVecB
import Derived.Test.YtdeelcoipmdoiaaGreatDoorGSidT
set_option maxHeartbeats 4000000
set_option maxRecDepth 100000
namespace Go.Proofs.YtdeelcoipmdoiaaGreatDoor
open Go Go.RowKit
section
variable {q1 q1' q2 q2' q3 q3':Rat}
structure SmS (q1 q1' q2 q2' q3 q3':Rat):Prop where
 d1:Sm 349 (q2 - q1)
 d1':Sm 349 (q2' - q1')
 d2:Sm 349 (q3 - q1)
 d2':Sm 349 (q3' - q1')
 p1:Sm 349 ((q2 - q1)*(q3' - q1'))
 p2:Sm 349 ((q2' - q1')*(q3 - q1))
 c:Sm 349 ((q2 - q1)*(q3' - q1') - (q2' - q1')*(q3 - q1))
theorem zos (h:zaY q1 q2 q3=true):true=zbr q1 q2 q3:=by unfold zbr;unfold zaY at h;rw[h];rfl
theorem zot (h:zaY q1 q2 q3=false):zaY q2 q1 q3=zbr q1 q2 q3:=by unfold zbr;unfold zaY at h ⊢;rw[h];rfl
theorem ztG (h:decide (zag (crs q1 q1' q2 q2' q3 q3') 0=0)=true)(h':zbr q1 q2 q3=true):zbr q1' q2' q3'=onR q1 q1' q2 q2' q3 q3':=by rw[zdz]at h;rw[←ziw,h,h'];rfl
theorem ztH (h:decide (zag (crs q1 q1' q2 q2' q3 q3') 0=0)=true)(h':zbr q1 q2 q3=false):false=onR q1 q1' q2 q2' q3 q3':=by rw[zdz]at h;rw[←ziw,h,h'];rfl
theorem zou (h:onR q1 q1' q2 q2' q3 q3'=true)(h':decide (zaQ q1 q1' q3 q3'=0)=false):(!decide (zaQ q2 q2' q3 q3'=0))=zbO q1 q1' q2 q2' q3 q3':=by rw[←zf7,h,h'];rfl
theorem zov (h':decide (zaQ q1 q1' q3 q3'=0)=true):false=zbO q1 q1' q2 q2' q3 q3':=by rw[←zf7,h'];simp
theorem ziz (h:onR q1 q1' q2 q2' q3 q3'=false):false=zbO q1 q1' q2 q2' q3 q3':=by rw[←zf7,h];rfl
theorem zkU (h:decide (zaQ q1 q1' q2 q2'=0)=false)(h':decide (zaQ q2 q2' q3 q3'=0)=false):onR q1 q1' q3 q3' q2 q2'=za3 q1 q1' q2 q2' q3 q3':=by rw[←zey,h,h'];rfl
theorem zkV (h':decide (zaQ q2 q2' q3 q3'=0)=true):false=za3 q1 q1' q2 q2' q3 q3':=by rw[←zey,h'];simp
theorem zgt (h:decide (zaQ q1 q1' q2 q2'=0)=true):false=za3 q1 q1' q2 q2' q3 q3':=by rw[←zey,h];rfl
end
theorem zf9 {q1 q1' q2 q2' q3 q3':Rat}{v1 v2 v3:Value}{V:World}(h1:P1 349 (q1) (q1') v1 V)(h2:P1 349 (q2) (q2') v2 V)(h3:P1 349 (q3) (q3') v3 V)(hS:SmS q1 q1' q2 q2' q3 q3'):
  Calls Tryz.prog 11 #[v1,v2,v3] V (zaj V (fun v _=>v= .int .i64 (zag (crs q1 q1' q2 q2' q3 q3') 0))):=by
 obtain⟨b1,x1,y1,b2,x2,y2,rfl,hq1,hq2,⟨hk1,hk2⟩,⟨hk3,hk4⟩,⟨ok1,ok2⟩,ok3,ok4⟩:=h1
 obtain⟨b3,x3,y3,b4,x4,y4,rfl,hq3,hq4,⟨hk5,hk6⟩,⟨hk7,hk8⟩,⟨ok5,ok6⟩,ok7,ok8⟩:=h2
 obtain⟨b5,x5,y5,b6,x6,y6,rfl,hq5,hq6,⟨hk9,hk10⟩,⟨hk11,hk12⟩,⟨ok9,ok10⟩,ok11,ok12⟩:=h3
 have hp0:=fun {V':World}=>p1m (V:=V') hq1 hq2 hk1 hk2 hk3 hk4
 have hp1:=fun {V':World}=>p1m (V:=V') hq3 hq4 hk5 hk6 hk7 hk8
 have hp2:=fun {V':World}=>p1m (V:=V') hq5 hq6 hk9 hk10 hk11 hk12
 obtain⟨hs0,hs1,hs2,hs3,hs4,hs5,hs6⟩:=hS
 refine fb Tryz.func11 Tryz.ntmps11 (zaa ok9 (zaa ok10 (zaa ok11 (zaa ok12 (zaa ok5 (zaa ok6 (zaa ok7 (zaa ok8 (zaa ok1 (zaa ok2 (zaa ok3 (zaa ok4 zaC)))))))))))) (fun a S=>?_)
 refine wsp fun K1 hK1=>?_
 refine tb S 0 (lP b1 x1 y1 b2 x2 y2) fun g1 a V1 hgg1 S=>?_
 refine tb S 2 (lP b3 x3 y3 b4 x4 y4) fun g2 a V2 hgg2 S=>?_
 refine tb S 4 (lP b5 x5 y5 b6 x6 y6) fun g3 a V3 hgg3 S=>?_
 refine ac S fun a S=>?_
 refine hK1 _ _ ?_
 refine wp_seq_k fun K2 hK2=>?_
 have S:=S.keep [6,5,4,3] (ls':=[(6,.int .i64 0),(5,pT g3 0),(4,pT g2 0),(3,pT g1 0)]) rfl
 obtain⟨W1,hW1⟩:∃W,W=V3:=⟨_,rfl⟩
 rw[←hW1]at S ⊢
 have S0:=S
 refine fr 8 [7,8,9,10,11,12,13,14] [IsV ((aP b3 x3 y3 b4 x4 y4)),IsV ((aP b1 x1 y1 b2 x2 y2)),PT 349 (q2 - q1) ((q2') - (q1')),IsV ((aP b5 x5 y5 b6 x6 y6)),IsV ((aP b1 x1 y1 b2 x2 y2)),PT 349 (q3 - q1) ((q3') - (q1')),QT 349 ((q2 - q1)*((q3') - (q1')) - ((q2') - (q1'))*(q3 - q1)),IsV (.int .i64 (zag ((q2 - q1)*((q3') - (q1')) - ((q2') - (q1'))*(q3 - q1)) 0))] S ?_ ?_
 ·refine sc (fun _ _ S _ _=>sv rfl (za9 rfl (S.at 2 rfl) (S.bx 1 rfl) rfl)) ?_
  refine sc (fun _ _ S _ _=>sv rfl (za9 rfl (S.at 3 rfl) (S.bx 0 rfl) rfl)) ?_
  refine sc (fun _ _ S _ hd=>sl rfl (rc2 Tryz.func41 (hd.v 0 rfl rfl) (hd.v 1 rfl rfl)) (zq7 (p4 S 4 hp1) (p4 S 8 hp0) (by assumption) (by assumption))) ?_
  refine sc (fun _ _ S _ _=>sv rfl (za9 rfl (S.at 1 rfl) (S.bx 2 rfl) rfl)) ?_
  refine sc (fun _ _ S _ _=>sv rfl (za9 rfl (S.at 3 rfl) (S.bx 0 rfl) rfl)) ?_
  refine sc (fun _ _ S _ hd=>sl rfl (rc2 Tryz.func41 (hd.v 3 rfl rfl) (hd.v 4 rfl rfl)) (zq7 (p4 S 0 hp2) (p4 S 8 hp0) (by assumption) (by assumption))) ?_
  refine sc (fun _ _ _ _ hd=>sl rfl (rc2 Tryz.func40 rfl rfl) (zsm ((hd.r 2 rfl rfl)).any ((hd.r 5 rfl rfl)).any (by assumption) (by assumption) (by assumption))) ?_
  refine sc (fun _ _ _ _ hd=>sl rfl (rc1 Tryz.func30 rfl) (ztj ((hd.r 6 rfl rfl)).any)) ?_
  exact sn
 ·intro a1 V4 S hB hf
  have S:=S.add (hf.v 7 rfl rfl)
  clear hf S0
  show wpList _ _ _ [_] _ _
  refine zav S (v:= .int .i64 (zag ((q2 - q1)*((q3') - (q1')) - ((q2') - (q1'))*(q3 - q1)) 0)) (zac rfl (S.at 0 rfl)) rfl rfl (by decide) (ls':=[(14,.int .i64 (zag ((q2 - q1)*((q3') - (q1')) - ((q2') - (q1'))*(q3 - q1)) 0)),(5,pT g3 0),(4,pT g2 0),(3,pT g1 0)]) rfl (fun a S=>?_)
  refine hK2 _ _ ?_
  refine wp_ret ?_
  exact zao rfl S (S.at 0 rfl) ⟨_,rfl,rfl,S.below⟩
theorem zdU {q1 q2 q3:Rat}{v1 v2 v3:Value}{V:World}(h1:Q1 349 (q1) v1 V)(h2:Q1 349 (q2) v2 V)(h3:Q1 349 (q3) v3 V):
  Calls Tryz.prog 24 #[v1,v2,v3] V (zaj V (fun v _=>v= .bool (zaY q1 q2 q3))):=by
 obtain⟨b1,x1,y1,rfl,hq1,hk1,hk2,ok1,ok2⟩:=h1
 obtain⟨b2,x2,y2,rfl,hq2,hk3,hk4,ok3,ok4⟩:=h2
 obtain⟨b3,x3,y3,rfl,hq3,hk5,hk6,ok5,ok6⟩:=h3
 refine fb Tryz.func24 Tryz.ntmps24 (zaa ok5 (zaa ok6 (zaa ok3 (zaa ok4 (zaa ok1 (zaa ok2 zaC)))))) (fun a S=>?_)
 refine wsp fun K1 hK1=>?_
 refine tb S 0 (aL b1 x1 y1) fun g1 a V1 hgg1 S=>?_
 refine tb S 2 (aL b2 x2 y2) fun g2 a V2 hgg2 S=>?_
 refine tb S 4 (aL b3 x3 y3) fun g3 a V3 hgg3 S=>?_
 refine ac S fun a S=>?_
 refine hK1 _ _ ?_
 refine wp_seq_k fun K2 hK2=>?_
 rcases zva (decide (zag q1 q3≤0))with hs1_|hs1_
 ·skip
  refine zam ?_
  refine tv S (zaX rfl (S.at 3 rfl) (S.bx 0 rfl) rfl) fun a S=>?_
  refine tv S (zaX rfl (S.at 2 rfl) (S.bx 2 rfl) rfl) fun a S=>?_
  refine tc S (rc2 Tryz.func31 (S.at 1 rfl) (S.at 0 rfl)) (zkw (q2m S 4 hq1 hk1 hk2) (q2m S 0 hq3 hk5 hk6) (by decide) (by decide)) fun v a V4 hF hb S=>?_
  subst hF
  refine tv S (zaN (c:=true) (zfj rfl (S.at 0 rfl) rfl) hs1_) fun a S=>?_
  refine mv S 0 fun a S=>?_
  refine tvg S (S.at 0 rfl) (zaX rfl (S.at 6 rfl) (S.bx 2 rfl) rfl) fun a S=>?_
  refine tvg S (S.at 1 rfl) (zaX rfl (S.at 8 rfl) (S.bx 1 rfl) rfl) fun a S=>?_
  refine tcg S (S.at 2 rfl) (rc2 Tryz.func31 (S.at 1 rfl) (S.at 0 rfl)) (zkw (q2m S 0 hq3 hk5 hk6) (q2m S 2 hq2 hk3 hk4) (by decide) (by decide)) fun v a V5 hF hb S=>?_
  subst hF
  refine tvg S (S.at 3 rfl) (zfj rfl (S.at 0 rfl) rfl) fun a S=>?_
  refine tv S (zap true rfl (S.at 4 rfl) (S.at 0 rfl)) fun a S=>?_
  refine zav S (v:= .bool (decide (zag q3 q2≤0))) (zac rfl (S.at 0 rfl)) rfl rfl (by decide) (ls':=[(16,.bool (decide (zag q3 q2≤0))),(15,.bool (decide (zag q3 q2≤0))),(14,.int .i64 (zag q3 q2)),(13,(aG b2 x2 y2)),(12,(aG b3 x3 y3)),(11,.bool true),(10,.bool true),(9,.int .i64 (zag q1 q3)),(8,(aG b3 x3 y3)),(7,(aG b1 x1 y1)),(5,pT g3 0),(4,pT g2 0),(3,pT g1 0),(0,(aG b1 x1 y1)),(1,(aG b2 x2 y2)),(2,(aG b3 x3 y3))]) rfl (fun a S=>?_)
  refine hK2 _ _ ?_
  refine wp_ret ?_
  exact zao rfl S (S.at 0 rfl) ⟨_,rfl,congrArg Value.bool (zhx hs1_),S.below⟩
 ·skip
  refine zam ?_
  refine tv S (zaX rfl (S.at 3 rfl) (S.bx 0 rfl) rfl) fun a S=>?_
  refine tv S (zaX rfl (S.at 2 rfl) (S.bx 2 rfl) rfl) fun a S=>?_
  refine tc S (rc2 Tryz.func31 (S.at 1 rfl) (S.at 0 rfl)) (zkw (q2m S 4 hq1 hk1 hk2) (q2m S 0 hq3 hk5 hk6) (by decide) (by decide)) fun v a V6 hF hb S=>?_
  subst hF
  refine tv S (zaN (c:=false) (zfj rfl (S.at 0 rfl) rfl) hs1_) fun a S=>?_
  refine mv S 0 fun a S=>?_
  refine tk S (S.at 0 rfl) fun a S=>?_
  refine tk S (S.at 1 rfl) fun a S=>?_
  refine tk S (S.at 2 rfl) fun a S=>?_
  refine tk S (S.at 3 rfl) fun a S=>?_
  refine tv S (zap false rfl (S.at 4 rfl) rfl) fun a S=>?_
  refine zav S (v:= .bool false) (zac rfl (S.at 0 rfl)) rfl rfl (by decide) (ls':=[(16,.bool false),(15,undef),(14,undef),(13,undef),(12,undef),(11,.bool false),(10,.bool false),(9,.int .i64 (zag q1 q3)),(8,(aG b3 x3 y3)),(7,(aG b1 x1 y1)),(5,pT g3 0),(4,pT g2 0),(3,pT g1 0),(0,(aG b1 x1 y1)),(1,(aG b2 x2 y2)),(2,(aG b3 x3 y3))]) rfl (fun a S=>?_)
  refine hK2 _ _ ?_
  refine wp_ret ?_
  exact zao rfl S (S.at 0 rfl) ⟨_,rfl,congrArg Value.bool (zhy hs1_),S.below⟩
theorem zhA {q1 q2 q3:Rat}{v1 v2 v3:Value}{V:World}(h1:Q1 349 (q1) v1 V)(h2:Q1 349 (q2) v2 V)(h3:Q1 349 (q3) v3 V):
  Calls Tryz.prog 45 #[v1,v2,v3] V (zaj V (fun v _=>v= .bool (zbr q1 q2 q3))):=by
 obtain⟨b1,x1,y1,rfl,hq1,hk1,hk2,ok1,ok2⟩:=h1
 obtain⟨b2,x2,y2,rfl,hq2,hk3,hk4,ok3,ok4⟩:=h2
 obtain⟨b3,x3,y3,rfl,hq3,hk5,hk6,ok5,ok6⟩:=h3
 refine fb Tryz.func45 Tryz.ntmps45 (zaa ok5 (zaa ok6 (zaa ok3 (zaa ok4 (zaa ok1 (zaa ok2 zaC)))))) (fun a S=>?_)
 refine wsp fun K1 hK1=>?_
 refine tb S 0 (aL b1 x1 y1) fun g1 a V1 hgg1 S=>?_
 refine tb S 2 (aL b2 x2 y2) fun g2 a V2 hgg2 S=>?_
 refine tb S 4 (aL b3 x3 y3) fun g3 a V3 hgg3 S=>?_
 refine ac S fun a S=>?_
 refine hK1 _ _ ?_
 refine wp_seq_k fun K2 hK2=>?_
 rcases zva (zaY q1 q2 q3)with hs1_|hs1_
 ·skip
  refine zam ?_
  refine tv S (zaX rfl (S.at 3 rfl) (S.bx 0 rfl) rfl) fun a S=>?_
  refine tv S (zaX rfl (S.at 3 rfl) (S.bx 1 rfl) rfl) fun a S=>?_
  refine tv S (zaX rfl (S.at 3 rfl) (S.bx 2 rfl) rfl) fun a S=>?_
  refine tc S (F:=(fun v _=>v= .bool true)) (rc3 Tryz.func24 (S.at 2 rfl) (S.at 1 rfl) (S.at 0 rfl)) (zbA (zdU (q2m S 4 hq1 hk1 hk2) (q2m S 2 hq2 hk3 hk4) (q2m S 0 hq3 hk5 hk6)) (fun _ _ h=>h.trans (congrArg Value.bool (show(zaY q1 q2 q3)=true from hs1_)))) fun v a V4 hF hb S=>?_
  subst hF
  refine mv S 0 fun a S=>?_
  refine tk S (S.at 0 rfl) fun a S=>?_
  refine tk S (S.at 1 rfl) fun a S=>?_
  refine tk S (S.at 2 rfl) fun a S=>?_
  refine tk S (S.at 3 rfl) fun a S=>?_
  refine tv S (zap true rfl (S.at 4 rfl) rfl) fun a S=>?_
  refine zav S (v:= .bool true) (zac rfl (S.at 0 rfl)) rfl rfl (by decide) (ls':=[(16,.bool true),(15,undef),(14,undef),(13,undef),(12,undef),(11,.bool true),(10,.bool true),(9,(aG b3 x3 y3)),(8,(aG b2 x2 y2)),(7,(aG b1 x1 y1)),(5,pT g3 0),(4,pT g2 0),(3,pT g1 0),(0,(aG b1 x1 y1)),(1,(aG b2 x2 y2)),(2,(aG b3 x3 y3))]) rfl (fun a S=>?_)
  refine hK2 _ _ ?_
  refine wp_ret ?_
  exact zao rfl S (S.at 0 rfl) ⟨_,rfl,congrArg Value.bool (zos hs1_),S.below⟩
 ·skip
  refine zam ?_
  refine tv S (zaX rfl (S.at 3 rfl) (S.bx 0 rfl) rfl) fun a S=>?_
  refine tv S (zaX rfl (S.at 3 rfl) (S.bx 1 rfl) rfl) fun a S=>?_
  refine tv S (zaX rfl (S.at 3 rfl) (S.bx 2 rfl) rfl) fun a S=>?_
  refine tc S (F:=(fun v _=>v= .bool false)) (rc3 Tryz.func24 (S.at 2 rfl) (S.at 1 rfl) (S.at 0 rfl)) (zbA (zdU (q2m S 4 hq1 hk1 hk2) (q2m S 2 hq2 hk3 hk4) (q2m S 0 hq3 hk5 hk6)) (fun _ _ h=>h.trans (congrArg Value.bool (show(zaY q1 q2 q3)=false from hs1_)))) fun v a V5 hF hb S=>?_
  subst hF
  refine mv S 0 fun a S=>?_
  refine tvg S (S.at 0 rfl) (zaX rfl (S.at 7 rfl) (S.bx 1 rfl) rfl) fun a S=>?_
  refine tvg S (S.at 1 rfl) (zaX rfl (S.at 9 rfl) (S.bx 0 rfl) rfl) fun a S=>?_
  refine tvg S (S.at 2 rfl) (zaX rfl (S.at 8 rfl) (S.bx 2 rfl) rfl) fun a S=>?_
  refine tcg S (S.at 3 rfl) (rc3 Tryz.func24 (S.at 2 rfl) (S.at 1 rfl) (S.at 0 rfl)) (zdU (q2m S 2 hq2 hk3 hk4) (q2m S 4 hq1 hk1 hk2) (q2m S 0 hq3 hk5 hk6)) fun v a V6 hF hb S=>?_
  subst hF
  refine tv S (zap false rfl (S.at 4 rfl) (S.at 0 rfl)) fun a S=>?_
  refine zav S (v:= .bool (zaY q2 q1 q3)) (zac rfl (S.at 0 rfl)) rfl rfl (by decide) (ls':=[(16,.bool (zaY q2 q1 q3)),(15,.bool (zaY q2 q1 q3)),(14,(aG b3 x3 y3)),(13,(aG b1 x1 y1)),(12,(aG b2 x2 y2)),(11,.bool false),(10,.bool false),(9,(aG b3 x3 y3)),(8,(aG b2 x2 y2)),(7,(aG b1 x1 y1)),(5,pT g3 0),(4,pT g2 0),(3,pT g1 0),(0,(aG b1 x1 y1)),(1,(aG b2 x2 y2)),(2,(aG b3 x3 y3))]) rfl (fun a S=>?_)
  refine hK2 _ _ ?_
  refine wp_ret ?_
  exact zao rfl S (S.at 0 rfl) ⟨_,rfl,congrArg Value.bool (zot hs1_),S.below⟩
theorem zow {q1 q1' q2 q2' q3 q3':Rat}{v1 v2 v3:Value}{V:World}(h1:P1 349 (q1) (q1') v1 V)(h2:P1 349 (q2) (q2') v2 V)(h3:P1 349 (q3) (q3') v3 V)(hS:SmS q1 q1' q2 q2' q3 q3'):
  Calls Tryz.prog 16 #[v1,v2,v3] V (zaj V (fun v _=>v= .bool (onR q1 q1' q2 q2' q3 q3'))):=by
 obtain⟨b1,x1,y1,b2,x2,y2,rfl,hq1,hq2,⟨hk1,hk2⟩,⟨hk3,hk4⟩,⟨ok1,ok2⟩,ok3,ok4⟩:=h1
 obtain⟨b3,x3,y3,b4,x4,y4,rfl,hq3,hq4,⟨hk5,hk6⟩,⟨hk7,hk8⟩,⟨ok5,ok6⟩,ok7,ok8⟩:=h2
 obtain⟨b5,x5,y5,b6,x6,y6,rfl,hq5,hq6,⟨hk9,hk10⟩,⟨hk11,hk12⟩,⟨ok9,ok10⟩,ok11,ok12⟩:=h3
 have hp0:=fun {V':World}=>p1m (V:=V') hq1 hq2 hk1 hk2 hk3 hk4
 have hp1:=fun {V':World}=>p1m (V:=V') hq3 hq4 hk5 hk6 hk7 hk8
 have hp2:=fun {V':World}=>p1m (V:=V') hq5 hq6 hk9 hk10 hk11 hk12
 refine fb Tryz.func16 Tryz.ntmps16 (zaa ok9 (zaa ok10 (zaa ok11 (zaa ok12 (zaa ok5 (zaa ok6 (zaa ok7 (zaa ok8 (zaa ok1 (zaa ok2 (zaa ok3 (zaa ok4 zaC)))))))))))) (fun a S=>?_)
 refine wsp fun K1 hK1=>?_
 refine tb S 0 (lP b1 x1 y1 b2 x2 y2) fun g1 a V1 hgg1 S=>?_
 refine tb S 2 (lP b3 x3 y3 b4 x4 y4) fun g2 a V2 hgg2 S=>?_
 refine tb S 4 (lP b5 x5 y5 b6 x6 y6) fun g3 a V3 hgg3 S=>?_
 refine ac S fun a S=>?_
 refine hK1 _ _ ?_
 refine wp_seq_k fun K2 hK2=>?_
 rcases zva (decide (zag (crs q1 q1' q2 q2' q3 q3') 0=0))with hs1_|hs1_
 ·skip
  rcases zva (zbr q1 q2 q3)with hs2_|hs2_
  ·skip
   refine zam ?_
   refine lp S 3 0 fun a S=>?_
   refine lp S 3 1 fun a S=>?_
   refine lp S 3 2 fun a S=>?_
   refine tc S (rc3 Tryz.func11 (S.at 2 rfl) (S.at 1 rfl) (S.at 0 rfl)) (zf9 (p4 S 8 hp0) (p4 S 4 hp1) (p4 S 0 hp2) (by assumption)) fun v a V4 hF hb S=>?_
   subst hF
   refine tv S (zaN (c:=true) (zbG _ (by decide) rfl (S.at 0 rfl) rfl) hs1_) fun a S=>?_
   refine mv S 0 fun a S=>?_
   refine tvg S (S.at 0 rfl) (zae rfl (S.at 9 rfl) (zaT _)) fun a S=>?_
   refine tvg S (S.at 1 rfl) (zaX rfl (S.at 0 rfl) (S.bx 0 rfl) rfl) fun a S=>?_
   refine tvg S (S.at 2 rfl) (zae rfl (S.at 10 rfl) (zaT _)) fun a S=>?_
   refine tvg S (S.at 3 rfl) (zaX rfl (S.at 0 rfl) (S.bx 1 rfl) rfl) fun a S=>?_
   refine tvg S (S.at 4 rfl) (zae rfl (S.at 11 rfl) (zaT _)) fun a S=>?_
   refine tvg S (S.at 5 rfl) (zaX rfl (S.at 0 rfl) (S.bx 2 rfl) rfl) fun a S=>?_
   refine tcg S (S.at 6 rfl) (F:=(fun v _=>v= .bool true)) (rc3 Tryz.func45 (S.at 4 rfl) (S.at 2 rfl) (S.at 0 rfl)) (zbA (zhA (q2m S 8 hq1 hk1 hk2) (q2m S 4 hq3 hk5 hk6) (q2m S 0 hq5 hk9 hk10)) (fun _ _ h=>h.trans (congrArg Value.bool (show(zbr q1 q2 q3)=true from hs2_)))) fun v a V5 hF hb S=>?_
   subst hF
   refine tv S (zap true rfl (S.at 7 rfl) (S.at 0 rfl)) fun a S=>?_
   refine mv S 0 fun a S=>?_
   refine tvg S (S.at 0 rfl) (zae rfl (S.at 18 rfl) (za8 _)) fun a S=>?_
   refine tvg S (S.at 1 rfl) (zaX rfl (S.at 0 rfl) (S.bx 0 rfl) rfl) fun a S=>?_
   refine tvg S (S.at 2 rfl) (zae rfl (S.at 19 rfl) (za8 _)) fun a S=>?_
   refine tvg S (S.at 3 rfl) (zaX rfl (S.at 0 rfl) (S.bx 1 rfl) rfl) fun a S=>?_
   refine tvg S (S.at 4 rfl) (zae rfl (S.at 20 rfl) (za8 _)) fun a S=>?_
   refine tvg S (S.at 5 rfl) (zaX rfl (S.at 0 rfl) (S.bx 2 rfl) rfl) fun a S=>?_
   refine tcg S (S.at 6 rfl) (rc3 Tryz.func45 (S.at 4 rfl) (S.at 2 rfl) (S.at 0 rfl)) (zhA (q2m S 10 hq2 hk3 hk4) (q2m S 6 hq4 hk7 hk8) (q2m S 2 hq6 hk11 hk12)) fun v a V6 hF hb S=>?_
   subst hF
   refine tv S (zap true rfl (S.at 7 rfl) (S.at 0 rfl)) fun a S=>?_
   refine zav S (v:= .bool (zbr (q1') (q2') (q3'))) (zac rfl (S.at 0 rfl)) rfl rfl (by decide) (ls':=[(29,.bool (zbr (q1') (q2') (q3'))),(28,.bool (zbr (q1') (q2') (q3'))),(27,(aG b6 x6 y6)),(26,pT g3 3),(25,(aG b4 x4 y4)),(24,pT g2 3),(23,(aG b2 x2 y2)),(22,pT g1 3),(21,.bool true),(20,.bool true),(19,.bool true),(18,(aG b5 x5 y5)),(17,pT g3 0),(16,(aG b3 x3 y3)),(15,pT g2 0),(14,(aG b1 x1 y1)),(13,pT g1 0),(12,.bool true),(11,.bool true),(10,.int .i64 (zag (crs q1 (q1') q2 (q2') q3 (q3')) 0)),(9,(aP b5 x5 y5 b6 x6 y6)),(8,(aP b3 x3 y3 b4 x4 y4)),(7,(aP b1 x1 y1 b2 x2 y2)),(5,pT g3 0),(4,pT g2 0),(3,pT g1 0),(0,(aP b1 x1 y1 b2 x2 y2)),(1,(aP b3 x3 y3 b4 x4 y4)),(2,(aP b5 x5 y5 b6 x6 y6))]) rfl (fun a S=>?_)
   refine hK2 _ _ ?_
   refine wp_ret ?_
   exact zao rfl S (S.at 0 rfl) ⟨_,rfl,congrArg Value.bool (ztG hs1_ hs2_),S.below⟩
  ·skip
   refine zam ?_
   refine lp S 3 0 fun a S=>?_
   refine lp S 3 1 fun a S=>?_
   refine lp S 3 2 fun a S=>?_
   refine tc S (rc3 Tryz.func11 (S.at 2 rfl) (S.at 1 rfl) (S.at 0 rfl)) (zf9 (p4 S 8 hp0) (p4 S 4 hp1) (p4 S 0 hp2) (by assumption)) fun v a V7 hF hb S=>?_
   subst hF
   refine tv S (zaN (c:=true) (zbG _ (by decide) rfl (S.at 0 rfl) rfl) hs1_) fun a S=>?_
   refine mv S 0 fun a S=>?_
   refine tvg S (S.at 0 rfl) (zae rfl (S.at 9 rfl) (zaT _)) fun a S=>?_
   refine tvg S (S.at 1 rfl) (zaX rfl (S.at 0 rfl) (S.bx 0 rfl) rfl) fun a S=>?_
   refine tvg S (S.at 2 rfl) (zae rfl (S.at 10 rfl) (zaT _)) fun a S=>?_
   refine tvg S (S.at 3 rfl) (zaX rfl (S.at 0 rfl) (S.bx 1 rfl) rfl) fun a S=>?_
   refine tvg S (S.at 4 rfl) (zae rfl (S.at 11 rfl) (zaT _)) fun a S=>?_
   refine tvg S (S.at 5 rfl) (zaX rfl (S.at 0 rfl) (S.bx 2 rfl) rfl) fun a S=>?_
   refine tcg S (S.at 6 rfl) (F:=(fun v _=>v= .bool false)) (rc3 Tryz.func45 (S.at 4 rfl) (S.at 2 rfl) (S.at 0 rfl)) (zbA (zhA (q2m S 8 hq1 hk1 hk2) (q2m S 4 hq3 hk5 hk6) (q2m S 0 hq5 hk9 hk10)) (fun _ _ h=>h.trans (congrArg Value.bool (show(zbr q1 q2 q3)=false from hs2_)))) fun v a V8 hF hb S=>?_
   subst hF
   refine tv S (zap true rfl (S.at 7 rfl) (S.at 0 rfl)) fun a S=>?_
   refine mv S 0 fun a S=>?_
   refine tk S (S.at 0 rfl) fun a S=>?_
   refine tk S (S.at 1 rfl) fun a S=>?_
   refine tk S (S.at 2 rfl) fun a S=>?_
   refine tk S (S.at 3 rfl) fun a S=>?_
   refine tk S (S.at 4 rfl) fun a S=>?_
   refine tk S (S.at 5 rfl) fun a S=>?_
   refine tk S (S.at 6 rfl) fun a S=>?_
   refine tv S (zap false rfl (S.at 7 rfl) rfl) fun a S=>?_
   refine zav S (v:= .bool false) (zac rfl (S.at 0 rfl)) rfl rfl (by decide) (ls':=[(29,.bool false),(28,undef),(27,undef),(26,undef),(25,undef),(24,undef),(23,undef),(22,undef),(21,.bool false),(20,.bool false),(19,.bool false),(18,(aG b5 x5 y5)),(17,pT g3 0),(16,(aG b3 x3 y3)),(15,pT g2 0),(14,(aG b1 x1 y1)),(13,pT g1 0),(12,.bool true),(11,.bool true),(10,.int .i64 (zag (crs q1 (q1') q2 (q2') q3 (q3')) 0)),(9,(aP b5 x5 y5 b6 x6 y6)),(8,(aP b3 x3 y3 b4 x4 y4)),(7,(aP b1 x1 y1 b2 x2 y2)),(5,pT g3 0),(4,pT g2 0),(3,pT g1 0),(0,(aP b1 x1 y1 b2 x2 y2)),(1,(aP b3 x3 y3 b4 x4 y4)),(2,(aP b5 x5 y5 b6 x6 y6))]) rfl (fun a S=>?_)
   refine hK2 _ _ ?_
   refine wp_ret ?_
   exact zao rfl S (S.at 0 rfl) ⟨_,rfl,congrArg Value.bool (ztH hs1_ hs2_),S.below⟩
 ·skip
  rcases zva (zbr q1 q2 q3)with hs2_|hs2_
  ·skip
   refine zam ?_
   refine lp S 3 0 fun a S=>?_
   refine lp S 3 1 fun a S=>?_
   refine lp S 3 2 fun a S=>?_
   refine tc S (rc3 Tryz.func11 (S.at 2 rfl) (S.at 1 rfl) (S.at 0 rfl)) (zf9 (p4 S 8 hp0) (p4 S 4 hp1) (p4 S 0 hp2) (by assumption)) fun v a V9 hF hb S=>?_
   subst hF
   refine tv S (zaN (c:=false) (zbG _ (by decide) rfl (S.at 0 rfl) rfl) hs1_) fun a S=>?_
   refine mv S 0 fun a S=>?_
   refine tk S (S.at 0 rfl) fun a S=>?_
   refine tk S (S.at 1 rfl) fun a S=>?_
   refine tk S (S.at 2 rfl) fun a S=>?_
   refine tk S (S.at 3 rfl) fun a S=>?_
   refine tk S (S.at 4 rfl) fun a S=>?_
   refine tk S (S.at 5 rfl) fun a S=>?_
   refine tk S (S.at 6 rfl) fun a S=>?_
   refine tv S (zap false rfl (S.at 7 rfl) rfl) fun a S=>?_
   refine mv S 0 fun a S=>?_
   refine tk S (S.at 0 rfl) fun a S=>?_
   refine tk S (S.at 1 rfl) fun a S=>?_
   refine tk S (S.at 2 rfl) fun a S=>?_
   refine tk S (S.at 3 rfl) fun a S=>?_
   refine tk S (S.at 4 rfl) fun a S=>?_
   refine tk S (S.at 5 rfl) fun a S=>?_
   refine tk S (S.at 6 rfl) fun a S=>?_
   refine tv S (zap false rfl (S.at 7 rfl) rfl) fun a S=>?_
   refine zav S (v:= .bool false) (zac rfl (S.at 0 rfl)) rfl rfl (by decide) (ls':=[(29,.bool false),(28,undef),(27,undef),(26,undef),(25,undef),(24,undef),(23,undef),(22,undef),(21,.bool false),(20,.bool false),(19,undef),(18,undef),(17,undef),(16,undef),(15,undef),(14,undef),(13,undef),(12,.bool false),(11,.bool false),(10,.int .i64 (zag (crs q1 (q1') q2 (q2') q3 (q3')) 0)),(9,(aP b5 x5 y5 b6 x6 y6)),(8,(aP b3 x3 y3 b4 x4 y4)),(7,(aP b1 x1 y1 b2 x2 y2)),(5,pT g3 0),(4,pT g2 0),(3,pT g1 0),(0,(aP b1 x1 y1 b2 x2 y2)),(1,(aP b3 x3 y3 b4 x4 y4)),(2,(aP b5 x5 y5 b6 x6 y6))]) rfl (fun a S=>?_)
   refine hK2 _ _ ?_
   refine wp_ret ?_
   exact zao rfl S (S.at 0 rfl) ⟨_,rfl,congrArg Value.bool (zqE hs1_),S.below⟩
  ·skip
   refine zam ?_
   refine lp S 3 0 fun a S=>?_
   refine lp S 3 1 fun a S=>?_
   refine lp S 3 2 fun a S=>?_
   refine tc S (rc3 Tryz.func11 (S.at 2 rfl) (S.at 1 rfl) (S.at 0 rfl)) (zf9 (p4 S 8 hp0) (p4 S 4 hp1) (p4 S 0 hp2) (by assumption)) fun v a V10 hF hb S=>?_
   subst hF
   refine tv S (zaN (c:=false) (zbG _ (by decide) rfl (S.at 0 rfl) rfl) hs1_) fun a S=>?_
   refine mv S 0 fun a S=>?_
   refine tk S (S.at 0 rfl) fun a S=>?_
   refine tk S (S.at 1 rfl) fun a S=>?_
   refine tk S (S.at 2 rfl) fun a S=>?_
   refine tk S (S.at 3 rfl) fun a S=>?_
   refine tk S (S.at 4 rfl) fun a S=>?_
   refine tk S (S.at 5 rfl) fun a S=>?_
   refine tk S (S.at 6 rfl) fun a S=>?_
   refine tv S (zap false rfl (S.at 7 rfl) rfl) fun a S=>?_
   refine mv S 0 fun a S=>?_
   refine tk S (S.at 0 rfl) fun a S=>?_
   refine tk S (S.at 1 rfl) fun a S=>?_
   refine tk S (S.at 2 rfl) fun a S=>?_
   refine tk S (S.at 3 rfl) fun a S=>?_
   refine tk S (S.at 4 rfl) fun a S=>?_
   refine tk S (S.at 5 rfl) fun a S=>?_
   refine tk S (S.at 6 rfl) fun a S=>?_
   refine tv S (zap false rfl (S.at 7 rfl) rfl) fun a S=>?_
   refine zav S (v:= .bool false) (zac rfl (S.at 0 rfl)) rfl rfl (by decide) (ls':=[(29,.bool false),(28,undef),(27,undef),(26,undef),(25,undef),(24,undef),(23,undef),(22,undef),(21,.bool false),(20,.bool false),(19,undef),(18,undef),(17,undef),(16,undef),(15,undef),(14,undef),(13,undef),(12,.bool false),(11,.bool false),(10,.int .i64 (zag (crs q1 (q1') q2 (q2') q3 (q3')) 0)),(9,(aP b5 x5 y5 b6 x6 y6)),(8,(aP b3 x3 y3 b4 x4 y4)),(7,(aP b1 x1 y1 b2 x2 y2)),(5,pT g3 0),(4,pT g2 0),(3,pT g1 0),(0,(aP b1 x1 y1 b2 x2 y2)),(1,(aP b3 x3 y3 b4 x4 y4)),(2,(aP b5 x5 y5 b6 x6 y6))]) rfl (fun a S=>?_)
   refine hK2 _ _ ?_
   refine wp_ret ?_
   exact zao rfl S (S.at 0 rfl) ⟨_,rfl,congrArg Value.bool (zqE hs1_),S.below⟩
theorem zqJ {q1 q1' q2 q2' q3 q3':Rat}{v1 v2 v3:Value}{V:World}(h1:P1 349 (q1) (q1') v1 V)(h2:P1 349 (q2) (q2') v2 V)(h3:P1 349 (q3) (q3') v3 V)(hS:SmS q1 q1' q2 q2' q3 q3'):
  Calls Tryz.prog 18 #[v1,v2,v3] V (zaj V (fun v _=>v= .bool (zbO q1 q1' q2 q2' q3 q3'))):=by
 obtain⟨b1,x1,y1,b2,x2,y2,rfl,hq1,hq2,⟨hk1,hk2⟩,⟨hk3,hk4⟩,⟨ok1,ok2⟩,ok3,ok4⟩:=h1
 obtain⟨b3,x3,y3,b4,x4,y4,rfl,hq3,hq4,⟨hk5,hk6⟩,⟨hk7,hk8⟩,⟨ok5,ok6⟩,ok7,ok8⟩:=h2
 obtain⟨b5,x5,y5,b6,x6,y6,rfl,hq5,hq6,⟨hk9,hk10⟩,⟨hk11,hk12⟩,⟨ok9,ok10⟩,ok11,ok12⟩:=h3
 have hp0:=fun {V':World}=>p1m (V:=V') hq1 hq2 hk1 hk2 hk3 hk4
 have hp1:=fun {V':World}=>p1m (V:=V') hq3 hq4 hk5 hk6 hk7 hk8
 have hp2:=fun {V':World}=>p1m (V:=V') hq5 hq6 hk9 hk10 hk11 hk12
 refine fb Tryz.func18 Tryz.ntmps18 (zaa ok9 (zaa ok10 (zaa ok11 (zaa ok12 (zaa ok5 (zaa ok6 (zaa ok7 (zaa ok8 (zaa ok1 (zaa ok2 (zaa ok3 (zaa ok4 zaC)))))))))))) (fun a S=>?_)
 refine wsp fun K1 hK1=>?_
 refine tb S 0 (lP b1 x1 y1 b2 x2 y2) fun g1 a V1 hgg1 S=>?_
 refine tb S 2 (lP b3 x3 y3 b4 x4 y4) fun g2 a V2 hgg2 S=>?_
 refine tb S 4 (lP b5 x5 y5 b6 x6 y6) fun g3 a V3 hgg3 S=>?_
 refine ac S fun a S=>?_
 refine hK1 _ _ ?_
 refine wp_seq_k fun K2 hK2=>?_
 rcases zva (onR q1 q1' q2 q2' q3 q3')with hs1_|hs1_
 ·skip
  rcases zva (decide (zaQ q1 q1' q3 q3'=0))with hs2_|hs2_
  ·skip
   refine zam ?_
   refine lp S 3 0 fun a S=>?_
   refine lp S 3 1 fun a S=>?_
   refine lp S 3 2 fun a S=>?_
   refine tc S (F:=(fun v _=>v= .bool true)) (rc3 Tryz.func16 (S.at 2 rfl) (S.at 1 rfl) (S.at 0 rfl)) (zbA (zow (p4 S 8 hp0) (p4 S 4 hp1) (p4 S 0 hp2) (by assumption)) (fun _ _ h=>h.trans (congrArg Value.bool (show(onR q1 (q1') q2 (q2') q3 (q3'))=true from hs1_)))) fun v a V4 hF hb S=>?_
   subst hF
   refine mv S 0 fun a S=>?_
   refine tvg S (S.at 0 rfl) (za9 rfl (S.at 8 rfl) (S.bx 0 rfl) rfl) fun a S=>?_
   refine tvg S (S.at 1 rfl) (za9 rfl (S.at 7 rfl) (S.bx 2 rfl) rfl) fun a S=>?_
   refine tcg S (S.at 2 rfl) (F:=(fun v _=>v= .bool true)) (rc2 Tryz.func33 (S.at 1 rfl) (S.at 0 rfl)) (zbA (zdg (p4 S 8 hp0) (p4 S 0 hp2)) (fun _ _ h=>h.trans (congrArg Value.bool (show(decide (zaQ q1 (q1') q3 (q3')=0))=true from hs2_)))) fun v a V5 hF hb S=>?_
   subst hF
   refine tvg S (S.at 3 rfl) (zcz (b:=true) rfl (S.at 0 rfl)) fun a S=>?_
   refine tv S (zap true rfl (S.at 4 rfl) (S.at 0 rfl)) fun a S=>?_
   refine mv S 0 fun a S=>?_
   refine tk S (S.at 0 rfl) fun a S=>?_
   refine tk S (S.at 1 rfl) fun a S=>?_
   refine tk S (S.at 2 rfl) fun a S=>?_
   refine tk S (S.at 3 rfl) fun a S=>?_
   refine tv S (zap false rfl (S.at 4 rfl) rfl) fun a S=>?_
   refine zav S (v:= .bool false) (zac rfl (S.at 0 rfl)) rfl rfl (by decide) (ls':=[(22,.bool false),(21,undef),(20,undef),(19,undef),(18,undef),(17,.bool false),(16,.bool false),(15,.bool false),(14,.bool true),(13,(aP b5 x5 y5 b6 x6 y6)),(12,(aP b1 x1 y1 b2 x2 y2)),(11,.bool true),(10,.bool true),(9,(aP b5 x5 y5 b6 x6 y6)),(8,(aP b3 x3 y3 b4 x4 y4)),(7,(aP b1 x1 y1 b2 x2 y2)),(5,pT g3 0),(4,pT g2 0),(3,pT g1 0),(0,(aP b1 x1 y1 b2 x2 y2)),(1,(aP b3 x3 y3 b4 x4 y4)),(2,(aP b5 x5 y5 b6 x6 y6))]) rfl (fun a S=>?_)
   refine hK2 _ _ ?_
   refine wp_ret ?_
   exact zao rfl S (S.at 0 rfl) ⟨_,rfl,congrArg Value.bool (zov hs2_),S.below⟩
  ·skip
   refine zam ?_
   refine lp S 3 0 fun a S=>?_
   refine lp S 3 1 fun a S=>?_
   refine lp S 3 2 fun a S=>?_
   refine tc S (F:=(fun v _=>v= .bool true)) (rc3 Tryz.func16 (S.at 2 rfl) (S.at 1 rfl) (S.at 0 rfl)) (zbA (zow (p4 S 8 hp0) (p4 S 4 hp1) (p4 S 0 hp2) (by assumption)) (fun _ _ h=>h.trans (congrArg Value.bool (show(onR q1 (q1') q2 (q2') q3 (q3'))=true from hs1_)))) fun v a V6 hF hb S=>?_
   subst hF
   refine mv S 0 fun a S=>?_
   refine tvg S (S.at 0 rfl) (za9 rfl (S.at 8 rfl) (S.bx 0 rfl) rfl) fun a S=>?_
   refine tvg S (S.at 1 rfl) (za9 rfl (S.at 7 rfl) (S.bx 2 rfl) rfl) fun a S=>?_
   refine tcg S (S.at 2 rfl) (F:=(fun v _=>v= .bool false)) (rc2 Tryz.func33 (S.at 1 rfl) (S.at 0 rfl)) (zbA (zdg (p4 S 8 hp0) (p4 S 0 hp2)) (fun _ _ h=>h.trans (congrArg Value.bool (show(decide (zaQ q1 (q1') q3 (q3')=0))=false from hs2_)))) fun v a V7 hF hb S=>?_
   subst hF
   refine tvg S (S.at 3 rfl) (zcz (b:=false) rfl (S.at 0 rfl)) fun a S=>?_
   refine tv S (zap true rfl (S.at 4 rfl) (S.at 0 rfl)) fun a S=>?_
   refine mv S 0 fun a S=>?_
   refine tvg S (S.at 0 rfl) (za9 rfl (S.at 13 rfl) (S.bx 1 rfl) rfl) fun a S=>?_
   refine tvg S (S.at 1 rfl) (za9 rfl (S.at 13 rfl) (S.bx 2 rfl) rfl) fun a S=>?_
   refine tcg S (S.at 2 rfl) (rc2 Tryz.func33 (S.at 1 rfl) (S.at 0 rfl)) (zdg (p4 S 4 hp1) (p4 S 0 hp2)) fun v a V8 hF hb S=>?_
   subst hF
   refine tvg S (S.at 3 rfl) (zcz rfl (S.at 0 rfl)) fun a S=>?_
   refine tv S (zap true rfl (S.at 4 rfl) (S.at 0 rfl)) fun a S=>?_
   refine zav S (v:= .bool (!(decide (zaQ q2 (q2') q3 (q3')=0)))) (zac rfl (S.at 0 rfl)) rfl rfl (by decide) (ls':=[(22,.bool (!(decide (zaQ q2 (q2') q3 (q3')=0)))),(21,.bool (!(decide (zaQ q2 (q2') q3 (q3')=0)))),(20,.bool (decide (zaQ q2 (q2') q3 (q3')=0))),(19,(aP b5 x5 y5 b6 x6 y6)),(18,(aP b3 x3 y3 b4 x4 y4)),(17,.bool true),(16,.bool true),(15,.bool true),(14,.bool false),(13,(aP b5 x5 y5 b6 x6 y6)),(12,(aP b1 x1 y1 b2 x2 y2)),(11,.bool true),(10,.bool true),(9,(aP b5 x5 y5 b6 x6 y6)),(8,(aP b3 x3 y3 b4 x4 y4)),(7,(aP b1 x1 y1 b2 x2 y2)),(5,pT g3 0),(4,pT g2 0),(3,pT g1 0),(0,(aP b1 x1 y1 b2 x2 y2)),(1,(aP b3 x3 y3 b4 x4 y4)),(2,(aP b5 x5 y5 b6 x6 y6))]) rfl (fun a S=>?_)
   refine hK2 _ _ ?_
   refine wp_ret ?_
   exact zao rfl S (S.at 0 rfl) ⟨_,rfl,congrArg Value.bool (zou hs1_ hs2_),S.below⟩
 ·skip
  rcases zva (decide (zaQ q1 q1' q3 q3'=0))with hs2_|hs2_
  ·skip
   refine zam ?_
   refine lp S 3 0 fun a S=>?_
   refine lp S 3 1 fun a S=>?_
   refine lp S 3 2 fun a S=>?_
   refine tc S (F:=(fun v _=>v= .bool false)) (rc3 Tryz.func16 (S.at 2 rfl) (S.at 1 rfl) (S.at 0 rfl)) (zbA (zow (p4 S 8 hp0) (p4 S 4 hp1) (p4 S 0 hp2) (by assumption)) (fun _ _ h=>h.trans (congrArg Value.bool (show(onR q1 (q1') q2 (q2') q3 (q3'))=false from hs1_)))) fun v a V9 hF hb S=>?_
   subst hF
   refine mv S 0 fun a S=>?_
   refine tk S (S.at 0 rfl) fun a S=>?_
   refine tk S (S.at 1 rfl) fun a S=>?_
   refine tk S (S.at 2 rfl) fun a S=>?_
   refine tk S (S.at 3 rfl) fun a S=>?_
   refine tv S (zap false rfl (S.at 4 rfl) rfl) fun a S=>?_
   refine mv S 0 fun a S=>?_
   refine tk S (S.at 0 rfl) fun a S=>?_
   refine tk S (S.at 1 rfl) fun a S=>?_
   refine tk S (S.at 2 rfl) fun a S=>?_
   refine tk S (S.at 3 rfl) fun a S=>?_
   refine tv S (zap false rfl (S.at 4 rfl) rfl) fun a S=>?_
   refine zav S (v:= .bool false) (zac rfl (S.at 0 rfl)) rfl rfl (by decide) (ls':=[(22,.bool false),(21,undef),(20,undef),(19,undef),(18,undef),(17,.bool false),(16,.bool false),(15,undef),(14,undef),(13,undef),(12,undef),(11,.bool false),(10,.bool false),(9,(aP b5 x5 y5 b6 x6 y6)),(8,(aP b3 x3 y3 b4 x4 y4)),(7,(aP b1 x1 y1 b2 x2 y2)),(5,pT g3 0),(4,pT g2 0),(3,pT g1 0),(0,(aP b1 x1 y1 b2 x2 y2)),(1,(aP b3 x3 y3 b4 x4 y4)),(2,(aP b5 x5 y5 b6 x6 y6))]) rfl (fun a S=>?_)
   refine hK2 _ _ ?_
   refine wp_ret ?_
   exact zao rfl S (S.at 0 rfl) ⟨_,rfl,congrArg Value.bool (ziz hs1_),S.below⟩
  ·skip
   refine zam ?_
   refine lp S 3 0 fun a S=>?_
   refine lp S 3 1 fun a S=>?_
   refine lp S 3 2 fun a S=>?_
   refine tc S (F:=(fun v _=>v= .bool false)) (rc3 Tryz.func16 (S.at 2 rfl) (S.at 1 rfl) (S.at 0 rfl)) (zbA (zow (p4 S 8 hp0) (p4 S 4 hp1) (p4 S 0 hp2) (by assumption)) (fun _ _ h=>h.trans (congrArg Value.bool (show(onR q1 (q1') q2 (q2') q3 (q3'))=false from hs1_)))) fun v a V10 hF hb S=>?_
   subst hF
   refine mv S 0 fun a S=>?_
   refine tk S (S.at 0 rfl) fun a S=>?_
   refine tk S (S.at 1 rfl) fun a S=>?_
   refine tk S (S.at 2 rfl) fun a S=>?_
   refine tk S (S.at 3 rfl) fun a S=>?_
   refine tv S (zap false rfl (S.at 4 rfl) rfl) fun a S=>?_
   refine mv S 0 fun a S=>?_
   refine tk S (S.at 0 rfl) fun a S=>?_
   refine tk S (S.at 1 rfl) fun a S=>?_
   refine tk S (S.at 2 rfl) fun a S=>?_
   refine tk S (S.at 3 rfl) fun a S=>?_
   refine tv S (zap false rfl (S.at 4 rfl) rfl) fun a S=>?_
   refine zav S (v:= .bool false) (zac rfl (S.at 0 rfl)) rfl rfl (by decide) (ls':=[(22,.bool false),(21,undef),(20,undef),(19,undef),(18,undef),(17,.bool false),(16,.bool false),(15,undef),(14,undef),(13,undef),(12,undef),(11,.bool false),(10,.bool false),(9,(aP b5 x5 y5 b6 x6 y6)),(8,(aP b3 x3 y3 b4 x4 y4)),(7,(aP b1 x1 y1 b2 x2 y2)),(5,pT g3 0),(4,pT g2 0),(3,pT g1 0),(0,(aP b1 x1 y1 b2 x2 y2)),(1,(aP b3 x3 y3 b4 x4 y4)),(2,(aP b5 x5 y5 b6 x6 y6))]) rfl (fun a S=>?_)
   refine hK2 _ _ ?_
   refine wp_ret ?_
   exact zao rfl S (S.at 0 rfl) ⟨_,rfl,congrArg Value.bool (ziz hs1_),S.below⟩
theorem zhB {q1 q1' q2 q2' q3 q3':Rat}{v1 v2 v3:Value}{V:World}(h1:P1 349 (q1) (q1') v1 V)(h2:P1 349 (q2) (q2') v2 V)(h3:P1 349 (q3) (q3') v3 V)(hS:SmS q1 q1' q3 q3' q2 q2'):
  Calls Tryz.prog 20 #[v1,v2,v3] V (zaj V (fun v _=>v= .bool (za3 q1 q1' q2 q2' q3 q3'))):=by
 obtain⟨b1,x1,y1,b2,x2,y2,rfl,hq1,hq2,⟨hk1,hk2⟩,⟨hk3,hk4⟩,⟨ok1,ok2⟩,ok3,ok4⟩:=h1
 obtain⟨b3,x3,y3,b4,x4,y4,rfl,hq3,hq4,⟨hk5,hk6⟩,⟨hk7,hk8⟩,⟨ok5,ok6⟩,ok7,ok8⟩:=h2
 obtain⟨b5,x5,y5,b6,x6,y6,rfl,hq5,hq6,⟨hk9,hk10⟩,⟨hk11,hk12⟩,⟨ok9,ok10⟩,ok11,ok12⟩:=h3
 have hp0:=fun {V':World}=>p1m (V:=V') hq1 hq2 hk1 hk2 hk3 hk4
 have hp1:=fun {V':World}=>p1m (V:=V') hq3 hq4 hk5 hk6 hk7 hk8
 have hp2:=fun {V':World}=>p1m (V:=V') hq5 hq6 hk9 hk10 hk11 hk12
 refine fb Tryz.func20 Tryz.ntmps20 (zaa ok9 (zaa ok10 (zaa ok11 (zaa ok12 (zaa ok5 (zaa ok6 (zaa ok7 (zaa ok8 (zaa ok1 (zaa ok2 (zaa ok3 (zaa ok4 zaC)))))))))))) (fun a S=>?_)
 refine wsp fun K1 hK1=>?_
 refine tb S 0 (lP b1 x1 y1 b2 x2 y2) fun g1 a V1 hgg1 S=>?_
 refine tb S 2 (lP b3 x3 y3 b4 x4 y4) fun g2 a V2 hgg2 S=>?_
 refine tb S 4 (lP b5 x5 y5 b6 x6 y6) fun g3 a V3 hgg3 S=>?_
 refine ac S fun a S=>?_
 refine hK1 _ _ ?_
 refine wp_seq_k fun K2 hK2=>?_
 rcases zva (decide (zaQ q1 q1' q2 q2'=0))with hs1_|hs1_
 ·skip
  rcases zva (decide (zaQ q2 q2' q3 q3'=0))with hs2_|hs2_
  ·skip
   refine zam ?_
   refine lp S 3 0 fun a S=>?_
   refine lp S 3 1 fun a S=>?_
   refine tc S (F:=(fun v _=>v= .bool true)) (rc2 Tryz.func33 (S.at 1 rfl) (S.at 0 rfl)) (zbA (zdg (p4 S 8 hp0) (p4 S 4 hp1)) (fun _ _ h=>h.trans (congrArg Value.bool (show(decide (zaQ q1 (q1') q2 (q2')=0))=true from hs1_)))) fun v a V4 hF hb S=>?_
   subst hF
   refine tv S (zcz (b:=true) rfl (S.at 0 rfl)) fun a S=>?_
   refine mv S 0 fun a S=>?_
   refine tk S (S.at 0 rfl) fun a S=>?_
   refine tk S (S.at 1 rfl) fun a S=>?_
   refine tk S (S.at 2 rfl) fun a S=>?_
   refine tk S (S.at 3 rfl) fun a S=>?_
   refine tv S (zap false rfl (S.at 4 rfl) rfl) fun a S=>?_
   refine mv S 0 fun a S=>?_
   refine tk S (S.at 0 rfl) fun a S=>?_
   refine tk S (S.at 1 rfl) fun a S=>?_
   refine tk S (S.at 2 rfl) fun a S=>?_
   refine tk S (S.at 3 rfl) fun a S=>?_
   refine tv S (zap false rfl (S.at 4 rfl) rfl) fun a S=>?_
   refine zav S (v:= .bool false) (zac rfl (S.at 0 rfl)) rfl rfl (by decide) (ls':=[(22,.bool false),(21,undef),(20,undef),(19,undef),(18,undef),(17,.bool false),(16,.bool false),(15,undef),(14,undef),(13,undef),(12,undef),(11,.bool false),(10,.bool false),(9,.bool true),(8,(aP b3 x3 y3 b4 x4 y4)),(7,(aP b1 x1 y1 b2 x2 y2)),(5,pT g3 0),(4,pT g2 0),(3,pT g1 0),(0,(aP b1 x1 y1 b2 x2 y2)),(1,(aP b3 x3 y3 b4 x4 y4)),(2,(aP b5 x5 y5 b6 x6 y6))]) rfl (fun a S=>?_)
   refine hK2 _ _ ?_
   refine wp_ret ?_
   exact zao rfl S (S.at 0 rfl) ⟨_,rfl,congrArg Value.bool (zgt hs1_),S.below⟩
  ·skip
   refine zam ?_
   refine lp S 3 0 fun a S=>?_
   refine lp S 3 1 fun a S=>?_
   refine tc S (F:=(fun v _=>v= .bool true)) (rc2 Tryz.func33 (S.at 1 rfl) (S.at 0 rfl)) (zbA (zdg (p4 S 8 hp0) (p4 S 4 hp1)) (fun _ _ h=>h.trans (congrArg Value.bool (show(decide (zaQ q1 (q1') q2 (q2')=0))=true from hs1_)))) fun v a V5 hF hb S=>?_
   subst hF
   refine tv S (zcz (b:=true) rfl (S.at 0 rfl)) fun a S=>?_
   refine mv S 0 fun a S=>?_
   refine tk S (S.at 0 rfl) fun a S=>?_
   refine tk S (S.at 1 rfl) fun a S=>?_
   refine tk S (S.at 2 rfl) fun a S=>?_
   refine tk S (S.at 3 rfl) fun a S=>?_
   refine tv S (zap false rfl (S.at 4 rfl) rfl) fun a S=>?_
   refine mv S 0 fun a S=>?_
   refine tk S (S.at 0 rfl) fun a S=>?_
   refine tk S (S.at 1 rfl) fun a S=>?_
   refine tk S (S.at 2 rfl) fun a S=>?_
   refine tk S (S.at 3 rfl) fun a S=>?_
   refine tv S (zap false rfl (S.at 4 rfl) rfl) fun a S=>?_
   refine zav S (v:= .bool false) (zac rfl (S.at 0 rfl)) rfl rfl (by decide) (ls':=[(22,.bool false),(21,undef),(20,undef),(19,undef),(18,undef),(17,.bool false),(16,.bool false),(15,undef),(14,undef),(13,undef),(12,undef),(11,.bool false),(10,.bool false),(9,.bool true),(8,(aP b3 x3 y3 b4 x4 y4)),(7,(aP b1 x1 y1 b2 x2 y2)),(5,pT g3 0),(4,pT g2 0),(3,pT g1 0),(0,(aP b1 x1 y1 b2 x2 y2)),(1,(aP b3 x3 y3 b4 x4 y4)),(2,(aP b5 x5 y5 b6 x6 y6))]) rfl (fun a S=>?_)
   refine hK2 _ _ ?_
   refine wp_ret ?_
   exact zao rfl S (S.at 0 rfl) ⟨_,rfl,congrArg Value.bool (zgt hs1_),S.below⟩
 ·skip
  rcases zva (decide (zaQ q2 q2' q3 q3'=0))with hs2_|hs2_
  ·skip
   refine zam ?_
   refine lp S 3 0 fun a S=>?_
   refine lp S 3 1 fun a S=>?_
   refine tc S (F:=(fun v _=>v= .bool false)) (rc2 Tryz.func33 (S.at 1 rfl) (S.at 0 rfl)) (zbA (zdg (p4 S 8 hp0) (p4 S 4 hp1)) (fun _ _ h=>h.trans (congrArg Value.bool (show(decide (zaQ q1 (q1') q2 (q2')=0))=false from hs1_)))) fun v a V6 hF hb S=>?_
   subst hF
   refine tv S (zcz (b:=false) rfl (S.at 0 rfl)) fun a S=>?_
   refine mv S 0 fun a S=>?_
   refine tvg S (S.at 0 rfl) (za9 rfl (S.at 7 rfl) (S.bx 1 rfl) rfl) fun a S=>?_
   refine tvg S (S.at 1 rfl) (za9 rfl (S.at 7 rfl) (S.bx 2 rfl) rfl) fun a S=>?_
   refine tcg S (S.at 2 rfl) (F:=(fun v _=>v= .bool true)) (rc2 Tryz.func33 (S.at 1 rfl) (S.at 0 rfl)) (zbA (zdg (p4 S 4 hp1) (p4 S 0 hp2)) (fun _ _ h=>h.trans (congrArg Value.bool (show(decide (zaQ q2 (q2') q3 (q3')=0))=true from hs2_)))) fun v a V7 hF hb S=>?_
   subst hF
   refine tvg S (S.at 3 rfl) (zcz (b:=true) rfl (S.at 0 rfl)) fun a S=>?_
   refine tv S (zap true rfl (S.at 4 rfl) (S.at 0 rfl)) fun a S=>?_
   refine mv S 0 fun a S=>?_
   refine tk S (S.at 0 rfl) fun a S=>?_
   refine tk S (S.at 1 rfl) fun a S=>?_
   refine tk S (S.at 2 rfl) fun a S=>?_
   refine tk S (S.at 3 rfl) fun a S=>?_
   refine tv S (zap false rfl (S.at 4 rfl) rfl) fun a S=>?_
   refine zav S (v:= .bool false) (zac rfl (S.at 0 rfl)) rfl rfl (by decide) (ls':=[(22,.bool false),(21,undef),(20,undef),(19,undef),(18,undef),(17,.bool false),(16,.bool false),(15,.bool false),(14,.bool true),(13,(aP b5 x5 y5 b6 x6 y6)),(12,(aP b3 x3 y3 b4 x4 y4)),(11,.bool true),(10,.bool true),(9,.bool false),(8,(aP b3 x3 y3 b4 x4 y4)),(7,(aP b1 x1 y1 b2 x2 y2)),(5,pT g3 0),(4,pT g2 0),(3,pT g1 0),(0,(aP b1 x1 y1 b2 x2 y2)),(1,(aP b3 x3 y3 b4 x4 y4)),(2,(aP b5 x5 y5 b6 x6 y6))]) rfl (fun a S=>?_)
   refine hK2 _ _ ?_
   refine wp_ret ?_
   exact zao rfl S (S.at 0 rfl) ⟨_,rfl,congrArg Value.bool (zkV hs2_),S.below⟩
  ·skip
   refine zam ?_
   refine lp S 3 0 fun a S=>?_
   refine lp S 3 1 fun a S=>?_
   refine tc S (F:=(fun v _=>v= .bool false)) (rc2 Tryz.func33 (S.at 1 rfl) (S.at 0 rfl)) (zbA (zdg (p4 S 8 hp0) (p4 S 4 hp1)) (fun _ _ h=>h.trans (congrArg Value.bool (show(decide (zaQ q1 (q1') q2 (q2')=0))=false from hs1_)))) fun v a V8 hF hb S=>?_
   subst hF
   refine tv S (zcz (b:=false) rfl (S.at 0 rfl)) fun a S=>?_
   refine mv S 0 fun a S=>?_
   refine tvg S (S.at 0 rfl) (za9 rfl (S.at 7 rfl) (S.bx 1 rfl) rfl) fun a S=>?_
   refine tvg S (S.at 1 rfl) (za9 rfl (S.at 7 rfl) (S.bx 2 rfl) rfl) fun a S=>?_
   refine tcg S (S.at 2 rfl) (F:=(fun v _=>v= .bool false)) (rc2 Tryz.func33 (S.at 1 rfl) (S.at 0 rfl)) (zbA (zdg (p4 S 4 hp1) (p4 S 0 hp2)) (fun _ _ h=>h.trans (congrArg Value.bool (show(decide (zaQ q2 (q2') q3 (q3')=0))=false from hs2_)))) fun v a V9 hF hb S=>?_
   subst hF
   refine tvg S (S.at 3 rfl) (zcz (b:=false) rfl (S.at 0 rfl)) fun a S=>?_
   refine tv S (zap true rfl (S.at 4 rfl) (S.at 0 rfl)) fun a S=>?_
   refine mv S 0 fun a S=>?_
   refine tvg S (S.at 0 rfl) (za9 rfl (S.at 14 rfl) (S.bx 0 rfl) rfl) fun a S=>?_
   refine tvg S (S.at 1 rfl) (za9 rfl (S.at 13 rfl) (S.bx 2 rfl) rfl) fun a S=>?_
   refine tvg S (S.at 2 rfl) (za9 rfl (S.at 15 rfl) (S.bx 1 rfl) rfl) fun a S=>?_
   refine tcg S (S.at 3 rfl) (rc3 Tryz.func16 (S.at 2 rfl) (S.at 1 rfl) (S.at 0 rfl)) (zow (p4 S 8 hp0) (p4 S 0 hp2) (p4 S 4 hp1) (by assumption)) fun v a V10 hF hb S=>?_
   subst hF
   refine tv S (zap true rfl (S.at 4 rfl) (S.at 0 rfl)) fun a S=>?_
   refine zav S (v:= .bool (onR q1 (q1') q3 (q3') q2 (q2'))) (zac rfl (S.at 0 rfl)) rfl rfl (by decide) (ls':=[(22,.bool (onR q1 (q1') q3 (q3') q2 (q2'))),(21,.bool (onR q1 (q1') q3 (q3') q2 (q2'))),(20,(aP b3 x3 y3 b4 x4 y4)),(19,(aP b5 x5 y5 b6 x6 y6)),(18,(aP b1 x1 y1 b2 x2 y2)),(17,.bool true),(16,.bool true),(15,.bool true),(14,.bool false),(13,(aP b5 x5 y5 b6 x6 y6)),(12,(aP b3 x3 y3 b4 x4 y4)),(11,.bool true),(10,.bool true),(9,.bool false),(8,(aP b3 x3 y3 b4 x4 y4)),(7,(aP b1 x1 y1 b2 x2 y2)),(5,pT g3 0),(4,pT g2 0),(3,pT g1 0),(0,(aP b1 x1 y1 b2 x2 y2)),(1,(aP b3 x3 y3 b4 x4 y4)),(2,(aP b5 x5 y5 b6 x6 y6))]) rfl (fun a S=>?_)
   refine hK2 _ _ ?_
   refine wp_ret ?_
   exact zao rfl S (S.at 0 rfl) ⟨_,rfl,congrArg Value.bool (zkU hs1_ hs2_),S.below⟩
def SmE (p q r:PEl):Prop:=SmS (pv p).1 (pv p).2 (pv q).1 (pv q).2 (pv r).1 (pv r).2
theorem ziA {K:Nat}{p q r:PEl}{V:World}(o1:okP V p)(o2:okP V q)(o3:okP V r)(k1:zbX K p)(k2:zbX K q)(k3:zbX K r)(hK:K≤349)(hS:SmE p q r):
  Calls Tryz.prog 11 #[.agg (zaD p).toArray,.agg (zaD q).toArray,.agg (zaD r).toArray] V (zaj V fun v _=>v= .int .i64 (zag (cz (pv p) (pv q) (pv r)) 0)):=by
 obtain⟨b1,x1,y1,d1,z1,w1⟩:=p
 obtain⟨b2,x2,y2,d2,z2,w2⟩:=q
 obtain⟨b3,x3,y3,d3,z3,w3⟩:=r
 have f:∀ {x:Num},x.n≤K→x.n≤349:=fun h=>zu3 h hK
 exact zf9 ⟨b1,x1,y1,d1,z1,w1,rfl,rfl,rfl,⟨f k1.1.1,f k1.1.2⟩,⟨f k1.2.1,f k1.2.2⟩,o1⟩ ⟨b2,x2,y2,d2,z2,w2,rfl,rfl,rfl,⟨f k2.1.1,f k2.1.2⟩,⟨f k2.2.1,f k2.2.2⟩,o2⟩ ⟨b3,x3,y3,d3,z3,w3,rfl,rfl,rfl,⟨f k3.1.1,f k3.1.2⟩,⟨f k3.2.1,f k3.2.2⟩,o3⟩ hS
section
variable {V:World}{a:Act}{o:Oper}{t1 t2:Tmp}{A:Option Addr}{c k hi:Nat}{l:List PEl}
theorem zga (hR:PRds V hi A l)(hk:k<l.length)(ho:o.op= .load 29 (.tmp t1)) (h1:a.tmps.getD t1 undef= .pointer (some (zbc A (k*6)))):
  (execOp a.eval o).run Tryz.prog V= .ok (.value (.agg (zaD l[k]).toArray)) V:=by
 obtain⟨b,x,y,b',x',y',hel⟩:∃b x y b' x' y',l[k]=(b,x,y,b',x',y'):=⟨_,_,_,_,_,_,rfl⟩
 rw[hel]
 exact zjK (hR.el hk hel) ho h1
theorem zeS {V2:World}(hR:PRds V2 hi A l)(hk:k<l.length)(ho:o.op= .indexAddr 30 (.tmp t1) (.tmp t2)) (h1:a.tmps.getD t1 undef= .slice A l.length c) (h2:a.tmps.getD t2 undef= .int .i64 (k:Nat)):
  (execOp a.eval o).run Tryz.prog V= .ok (.value (.pointer (some (zbc A (k*6))))) V:=by
 obtain⟨⟨ad,rfl,-⟩,-⟩:=hR k hk
 exact zcq ⟨_,rfl⟩ hk ho h1 h2
theorem zr4 {n:Nat}{ls ls':List (Tmp×Value)}{w:World}{t:Tmp}{v:Value}{z:Int}{L:List Int}{ops:Array Oper}{Q:Exit→Act→World→Prop}{rest:List Oper}{gl:Nat}(S:Frm n ls [] w [] a V)(ho:o.op= .call { callee:= .builtin .append,args:= #[.tmp t1,.tmp t2],argTypes:= #[36,36] }) (h1:a.tmps.getD t1 undef=v) (h2:a.tmps.getD t2 undef= .slice (some ⟨gl,0,none⟩) 1 1)
  (hown:V.ownsRow w.heap.size 3 1 v L.length (zfL L)) (hg:V.heap[gl]?=some (.cells #[.int .i64 z] 3 (0,0))) (hL:L.length≤1000) (hl:zdD t ls=ls')
  (k:∀v' a V',V'.ownsRow w.heap.size 3 1 v' (L++[z]).length (zfL (L++[z]))→Frm n ((t,v')::ls') [] w [] a V'→wpList Tryz.prog ops Q rest a V')
  (hgd:o.guard=none:=by exact rfl) (hd:o.dst=some t:=by exact rfl) (ht:t<n:=by decide):wpList Tryz.prog ops Q (o::rest) a V:=by
 obtain⟨v',W',hrun,hown2,hgr,hb⟩:=zm1 hown S.below.size hL hg o.type
 have hr:=zgb (V:=W') ho h1 h2 hrun
 have S':Frm n ls [] w [] a W':=⟨S.size,S.defers,S.slots,⟨fun _ h=>(by cases h),List.Pairwise.nil⟩,⟨S.below.trans hb,fun _ h=>(by cases h)⟩⟩
 exact zlQ (K:=fun a' V2=>a'=a.put (some t) v'∧V2=W') (by simp[Oper.wp,hr,Oper.upon,hd]) hgd (by rintro a' V2 ⟨rfl,rfl⟩;exact k _ _ _ hown2 (S'.put _ ht hl))
end
theorem zqK {V:World}:IRow [] (.slice none 0 0) V:=⟨none,0,rfl,by decide,fun k hk=>absurd hk (Nat.not_lt_zero _)⟩
theorem zr5 {K:Nat}{A:Option Addr}{c:Nat}{l:List PEl}{V:World}(hR:PRds V V.heap.size A l)(hl:l.length≤1000)(hK:∀p∈l,zbX K p)(hKb:K≤349)(hS:∀p∈l,∀q∈l,∀r∈l,SmE p q r):
  Calls Tryz.prog 14 #[.slice A l.length c] V (zaj V (IRow (zck l))):=by
 have htl:=zgc l
 refine fb Tryz.func14 Tryz.ntmps14 zaC (fun a S=>?_)
 refine wsp fun K1 hK1=>?_
 refine ac S fun a S=>?_
 refine hK1 _ _ ?_
 refine wp_seq_k fun K2 hK2=>?_
 refine wsp fun K3 hK3=>?_
 refine tv S (zab rfl (S.get rfl)) fun a S=>?_
 refine tv S (zbf rfl (S.get rfl)) fun a S=>?_
 refine tv S (zb7 rfl (S.get rfl) rfl) fun a S=>?_
 refine hK3 _ _ ?_
 rcases zva (decide (((l.length:Nat):Int)<3))with h3|h3
 ·refine wp_cond_true ((S.get rfl).trans (congrArg Value.bool h3)) ?_
  have hl3:l.length<3:=by have:=of_decide_eq_true h3;omega
  have ht:zck l=[]:=List.eq_nil_of_length_eq_zero (by rw[htl];unfold zcV;rw[if_pos hl3])
  refine wsp fun K4 hK4=>?_
  refine zav S (zcx rfl) rfl rfl (by decide) rfl (fun a S=>?_)
  refine hK4 _ _ ?_
  refine wp_ret ?_
  simp only[Exit.then]
  exact zao rfl S (S.at 0 rfl) ⟨_,rfl,by rw[ht];exact zqK,S.below⟩
 ·refine wp_cond_false ((S.get rfl).trans (congrArg Value.bool h3)) ?_
  have hl3: ¬l.length<3:=by have:=of_decide_eq_false h3;omega
  have hcn:zcV l=l.length:=by unfold zcV;rw[if_neg hl3]
  refine wp_skip ?_
  refine hK2 _ _ ?_
  refine wp_seq_k fun K4 hK4=>?_
  have S:=S.keep [0] rfl
  refine zam ?_
  refine ac S fun a S=>?_
  refine hK4 _ _ ?_
  refine wp_seq_k fun K5 hK5=>?_
  refine wsp fun K6 hK6=>?_
  refine ac S fun a S=>?_
  refine hK6 _ _ ?_
  refine wp_block ?_
  refine wp_loop (fun aI VI=>∃(k:Nat) (u:Value),(k≤l.length∧VI.ownsRow V.heap.size 3 1 u ((zck l).take k).length (zfL ((zck l).take k)))∧Frm 42 [(4,.int .i64 ((k:Nat):Int)),(3,u),(0,.slice A l.length c)] [] V [] aI VI)
   (fun aI _=>l.length - (intOf (aI.tmps.getD 4 undef)).toNat) ⟨0,_,⟨Nat.zero_le _,by simpa[zfL]using World.ownsRow_nil _ _ _ _⟩,S⟩ ?_
  clear S
  rintro a1 V1 ⟨k,u,⟨hkl,hown⟩,S⟩
  have hm0:a1.tmps.getD 4 undef= .int .i64 ((k:Nat):Int):=S.at 0 rfl
  refine wp_seq_k fun K7 hK7=>?_
  refine wsp fun K8 hK8=>?_
  refine tv S (zab rfl (S.get rfl)) fun a S=>?_
  refine tv S (zab rfl (S.get rfl)) fun a S=>?_
  refine tv S (zbf rfl (S.get rfl)) fun a S=>?_
  refine tv S (zb7 rfl (S.get rfl) (S.get rfl)) fun a S=>?_
  refine hK8 _ _ ?_
  rcases zva (decide (((k:Nat):Int)<((l.length:Nat):Int)))with hc|hc
  ·refine wp_cond_true ((S.get rfl).trans (congrArg Value.bool hc)) ?_
   have hlt:k<l.length:=by have:=of_decide_eq_true hc;omega
   have i1:((k+l.length) - 1)%l.length<l.length:=Nat.mod_lt _ (by omega)
   have i3:(k+1)%l.length<l.length:=Nat.mod_lt _ (by omega)
   refine wp_skip ?_
   refine hK7 _ _ ?_
   refine wp_seq_k fun K9 hK9=>?_
   refine wp_block ?_
   have S:=S.keep [4,3,0] rfl
   refine fr 26 [14,15,16,17,18,19,20,21,22,23,24,25,26,27,28,29,30,31,32,33,34,35,36,37,38,39] [IsV u,IsV (.slice A l.length c),IsV (.int .i64 ((k:Nat):Int)),IsV (.slice A l.length c),IsV (.int .i64 ((l.length:Nat):Int)),IsV (.int .i64 ((k+l.length:Nat):Int)),IsV (.int .i64 (((k+l.length) - 1:Nat):Int)),IsV (.slice A l.length c),IsV (.int .i64 ((l.length:Nat):Int)),IsV (.int .i64 ((((k+l.length) - 1)%l.length:Nat):Int)),IsV (.pointer (some (zbc A (((k+l.length) - 1)%l.length*6)))),IsV (.agg (zaD l[((k+l.length) - 1)%l.length]).toArray),
    IsV (.slice A l.length c),IsV (.int .i64 ((k:Nat):Int)),IsV (.pointer (some (zbc A (k*6)))),IsV (.agg (zaD l[k]).toArray),IsV (.slice A l.length c),IsV (.int .i64 ((k:Nat):Int)),IsV (.int .i64 ((k+1:Nat):Int)),IsV (.slice A l.length c),IsV (.int .i64 ((l.length:Nat):Int)),IsV (.int .i64 (((k+1)%l.length:Nat):Int)),IsV (.pointer (some (zbc A ((k+1)%l.length*6)))),IsV (.agg (zaD l[(k+1)%l.length]).toArray),IsV (.int .i64 (zag (cz (pv l[((k+l.length) - 1)%l.length]) (pv l[k]) (pv l[(k+1)%l.length])) 0)),IL1 (zag (cz (pv l[((k+l.length) - 1)%l.length]) (pv l[k]) (pv l[(k+1)%l.length])) 0)] S ?_ ?_
   ·refine sc (fun _ _ S _ _=>sv rfl (zab rfl (S.get rfl))) ?_
    refine sc (fun _ _ S _ _=>sv rfl (zab rfl (S.get rfl))) ?_
    refine sc (fun _ _ S _ _=>sv rfl (zab rfl (S.get rfl))) ?_
    refine sc (fun _ _ S _ _=>sv rfl (zab rfl (S.get rfl))) ?_
    refine sc (fun _ _ _ _ hd=>sv rfl (zbf rfl (hd.v 3 rfl rfl))) ?_
    refine sc (fun _ _ _ _ hd=>sv rfl (zbj (k:=k) (m:=l.length) rfl (hd.v 2 rfl rfl) (hd.v 4 rfl rfl) (by omega))) ?_
    refine sc (fun _ _ _ _ hd=>sv rfl (zgR (k:=k+l.length) (m:=1) (by omega) rfl (hd.v 5 rfl rfl) rfl (by omega))) ?_
    refine sc (fun _ _ S _ _=>sv rfl (zab rfl (S.get rfl))) ?_
    refine sc (fun _ _ _ _ hd=>sv rfl (zbf rfl (hd.v 7 rfl rfl))) ?_
    refine sc (fun _ _ _ _ hd=>sv rfl (zgQ (k:=(k+l.length) - 1) (m:=l.length) (by omega) rfl (hd.v 6 rfl rfl) (hd.v 8 rfl rfl) (by omega))) ?_
    refine sc (fun _ _ S _ hd=>sv rfl (zeS hR i1 rfl (hd.v 1 rfl rfl) (hd.v 9 rfl rfl))) ?_
    refine sc (fun _ _ S _ hd=>sv rfl (zga (hR.below S.below) i1 rfl (hd.v 10 rfl rfl))) ?_
    refine sc (fun _ _ S _ _=>sv rfl (zab rfl (S.get rfl))) ?_
    refine sc (fun _ _ S _ _=>sv rfl (zab rfl (S.get rfl))) ?_
    refine sc (fun _ _ S _ hd=>sv rfl (zeS hR hlt rfl (hd.v 12 rfl rfl) (hd.v 13 rfl rfl))) ?_
    refine sc (fun _ _ S _ hd=>sv rfl (zga (hR.below S.below) hlt rfl (hd.v 14 rfl rfl))) ?_
    refine sc (fun _ _ S _ _=>sv rfl (zab rfl (S.get rfl))) ?_
    refine sc (fun _ _ S _ _=>sv rfl (zab rfl (S.get rfl))) ?_
    refine sc (fun _ _ _ _ hd=>sv rfl (zbj (k:=k) (m:=1) rfl (hd.v 17 rfl rfl) rfl (by omega))) ?_
    refine sc (fun _ _ S _ _=>sv rfl (zab rfl (S.get rfl))) ?_
    refine sc (fun _ _ _ _ hd=>sv rfl (zbf rfl (hd.v 19 rfl rfl))) ?_
    refine sc (fun _ _ _ _ hd=>sv rfl (zgQ (k:=k+1) (m:=l.length) (by omega) rfl (hd.v 18 rfl rfl) (hd.v 20 rfl rfl) (by omega))) ?_
    refine sc (fun _ _ S _ hd=>sv rfl (zeS hR i3 rfl (hd.v 16 rfl rfl) (hd.v 21 rfl rfl))) ?_
    refine sc (fun _ _ S _ hd=>sv rfl (zga (hR.below S.below) i3 rfl (hd.v 22 rfl rfl))) ?_
    refine sc (fun _ _ S _ hd=>sl rfl (rc3 Tryz.func11 (hd.v 11 rfl rfl) (hd.v 15 rfl rfl) (hd.v 23 rfl rfl)) (ziA (((hR.below S.below).more S.below.size).mem (List.getElem_mem i1)) (((hR.below S.below).more S.below.size).mem (List.getElem_mem hlt)) (((hR.below S.below).more S.below.size).mem (List.getElem_mem i3)) (hK _ (List.getElem_mem i1)) (hK _ (List.getElem_mem hlt)) (hK _ (List.getElem_mem i3)) hKb (hS _ (List.getElem_mem i1) _ (List.getElem_mem hlt) _ (List.getElem_mem i3)))) ?_
    refine sc (fun _ _ _ _ hd=>sy rfl (zm0 rfl (hd.v 24 rfl rfl))) ?_
    exact sn
   ·intro a2 V2 S hB2 hf
    obtain⟨gl,hv,hgl⟩:=hf.r 25 rfl rfl
    have S:=((S.add (hf.v 0 rfl rfl)).add hv)
    have hown2:=hown.kept (zbt hB2 none) (by rcases hu:u.ownBlock with _|b <;> simp)
    show wpList _ _ _ [_,_] _ _
    refine zr4 S rfl (S.at 1 rfl) (S.at 0 rfl) hown2 hgl (by rw[List.length_take];omega) rfl (fun u2 a V4 hown3 S=>?_)
    refine zav S (v:=u2) (zac rfl (S.at 0 rfl)) rfl rfl (by decide) rfl (fun a S=>?_)
    refine hK9 _ _ ?_
    have S:=S.keep [3,4,0] rfl
    refine zam ?_
    refine tv S (zab rfl (S.get rfl)) fun a S=>?_
    refine tv S (zbj (k:=k) (m:=1) rfl (S.get rfl) rfl (by omega)) fun a S=>?_
    refine zav S (v:= .int .i64 ((k+1:Nat):Int)) (zac rfl (S.at 0 rfl)) rfl rfl (by decide) rfl (fun a S=>?_)
    have S:=S.keep [4,3,0] rfl
    have hnx:(zck l).take (k+1)=(zck l).take k++[zag (cz (pv l[((k+l.length) - 1)%l.length]) (pv l[k]) (pv l[(k+1)%l.length])) 0]:=by
     rw[zhD (by rw[hcn];exact hlt)]
     unfold czC zbH
     rw[zbR i1,zbR hlt,zbR i3]
    refine⟨⟨k+1,u2,⟨hlt,by rw[hnx];exact hown3⟩,S⟩,?_⟩
    have hm1:=S.at 0 rfl
    rw[hm0,hm1]
    simp only[intOf];omega
  ·refine wp_cond_false ((S.get rfl).trans (congrArg Value.bool hc)) ?_
   have hge:l.length≤k:=by have:=of_decide_eq_false hc;omega
   refine wp_exit ?_
   refine hK5 _ _ ?_
   have S:=S.keep [4,3,0] rfl
   rw[List.take_of_length_le (by rw[htl];omega)]at hown
   refine wsp fun K9 hK9=>?_
   refine tv S (zab rfl (S.get rfl)) fun a S=>?_
   refine tv S (zac rfl (S.get rfl)) fun a S=>?_
   refine hK9 _ _ ?_
   refine wp_ret ?_
   exact zao rfl S (S.at 0 rfl) ⟨_,rfl,zkY hown (by rw[htl];omega),S.below⟩
def cz3 (l:List PEl)(j k i:Nat):Rat:=cz (pv (el l j)) (pv (el l k)) (pv (el l i))
theorem ziB {l:List PEl}:(∀j k i,j<k→k<i→i<l.length→cz3 l j k i=0)↔zbQ (l.map pv):=by
 rw[←zon]
 constructor
 ·intro h j k i hi hjk hki
  have hi':i<l.length:=by simpa using hi
  have:=h j k i hjk hki hi'
  unfold cz3 at this
  rw[zbR (by omega),zbR (by omega),zbR hi']at this
  simpa using this
 ·intro h j k i hjk hki hi
  have:=h j k i (by simpa using hi) hjk hki
  unfold cz3
  rw[zbR (by omega),zbR (by omega),zbR hi]
  simpa using this
theorem zr6 {K:Nat}{A:Option Addr}{c:Nat}{l:List PEl}{V:World}(hR:PRds V V.heap.size A l)(hl:l.length≤1000)(hK:∀p∈l,zbX K p)(hKb:K≤349)(hS:∀p∈l,∀q∈l,∀r∈l,SmE p q r):
  Calls Tryz.prog 22 #[.slice A l.length c] V (zaj V fun v _=>v= .bool (decide (zbQ (l.map pv)))):=by
 refine fb Tryz.func22 Tryz.ntmps22 zaC (fun a S=>?_)
 refine wsp fun K1 hK1=>?_
 refine ac S fun a S=>?_
 refine hK1 _ _ ?_
 refine wp_seq_k fun K2 hK2=>?_
 refine wp_seq_k fun K3 hK3=>?_
 have S:=S.keep [0] rfl
 refine zam ?_
 refine ac S fun a S=>?_
 refine hK3 _ _ ?_
 refine wp_block ?_
 refine wp_loop (fun aI VI=>∃i:Nat,(i≤l.length∧∀j k m,j<k→k<m→m<i→cz3 l j k m=0)∧Frm 36 [(3,.int .i64 ((i:Nat):Int)),(0,.slice A l.length c)] [] V [] aI VI)
  (fun aI _=>l.length - (intOf (aI.tmps.getD 3 undef)).toNat) ⟨0,⟨Nat.zero_le _,fun j k m _ _ h=>absurd h (Nat.not_lt_zero _)⟩,S⟩ ?_
 clear S
 rintro a1 V1 ⟨i,⟨hil,hdone⟩,S⟩
 have hm0:a1.tmps.getD 3 undef= .int .i64 ((i:Nat):Int):=S.at 0 rfl
 refine wp_seq_k fun K4 hK4=>?_
 refine wsp fun K5 hK5=>?_
 refine tv S (zab rfl (S.get rfl)) fun a S=>?_
 refine tv S (zab rfl (S.get rfl)) fun a S=>?_
 refine tv S (zbf rfl (S.get rfl)) fun a S=>?_
 refine tv S (zb7 rfl (S.get rfl) (S.get rfl)) fun a S=>?_
 refine hK5 _ _ ?_
 rcases zva (decide (((i:Nat):Int)<((l.length:Nat):Int)))with hc|hc
 ·refine wp_cond_true ((S.get rfl).trans (congrArg Value.bool hc)) ?_
  have hin:i<l.length:=by have:=of_decide_eq_true hc;omega
  refine wp_skip ?_
  refine hK4 _ _ ?_
  refine wp_seq_k fun K6 hK6=>?_
  refine wp_block ?_
  refine wp_seq_k fun K7 hK7=>?_
  have S:=S.keep [3,0] rfl
  refine zam ?_
  refine ac S fun a S=>?_
  refine hK7 _ _ ?_
  refine wp_block ?_
  refine wp_loop (fun aI VI=>∃k:Nat,(k≤i∧∀j m,j<m→m<k→cz3 l j m i=0)∧Frm 36 [(4,.int .i64 ((k:Nat):Int)),(3,.int .i64 ((i:Nat):Int)),(0,.slice A l.length c)] [] V [] aI VI)
   (fun aI _=>i - (intOf (aI.tmps.getD 4 undef)).toNat) ⟨0,⟨Nat.zero_le _,fun j m _ h=>absurd h (Nat.not_lt_zero _)⟩,S⟩ ?_
  clear S
  rintro a2 V2 ⟨k,⟨hki,hdk⟩,S⟩
  have hm1:a2.tmps.getD 4 undef= .int .i64 ((k:Nat):Int):=S.at 0 rfl
  refine wp_seq_k fun K8 hK8=>?_
  refine wsp fun K9 hK9=>?_
  refine tv S (zab rfl (S.get rfl)) fun a S=>?_
  refine tv S (zab rfl (S.get rfl)) fun a S=>?_
  refine tv S (zb7 rfl (S.get rfl) (S.get rfl)) fun a S=>?_
  refine hK9 _ _ ?_
  rcases zva (decide (((k:Nat):Int)<((i:Nat):Int)))with hc2|hc2
  ·refine wp_cond_true ((S.get rfl).trans (congrArg Value.bool hc2)) ?_
   have hkn:k<i:=by have:=of_decide_eq_true hc2;omega
   refine wp_skip ?_
   refine hK8 _ _ ?_
   refine wp_seq_k fun K10 hK10=>?_
   refine wp_block ?_
   refine wp_seq_k fun K11 hK11=>?_
   have S:=S.keep [4,3,0] rfl
   refine zam ?_
   refine ac S fun a S=>?_
   refine hK11 _ _ ?_
   refine wp_block ?_
   refine wp_loop (fun aI VI=>∃j:Nat,(j≤k∧∀m,m<j→cz3 l m k i=0)∧Frm 36 [(5,.int .i64 ((j:Nat):Int)),(4,.int .i64 ((k:Nat):Int)),(3,.int .i64 ((i:Nat):Int)),(0,.slice A l.length c)] [] V [] aI VI)
    (fun aI _=>k - (intOf (aI.tmps.getD 5 undef)).toNat) ⟨0,⟨Nat.zero_le _,fun m h=>absurd h (Nat.not_lt_zero _)⟩,S⟩ ?_
   clear S
   rintro a3 V3 ⟨j,⟨hjk,hdj⟩,S⟩
   have hm2:a3.tmps.getD 5 undef= .int .i64 ((j:Nat):Int):=S.at 0 rfl
   refine wp_seq_k fun K12 hK12=>?_
   refine wsp fun K13 hK13=>?_
   refine tv S (zab rfl (S.get rfl)) fun a S=>?_
   refine tv S (zab rfl (S.get rfl)) fun a S=>?_
   refine tv S (zb7 rfl (S.get rfl) (S.get rfl)) fun a S=>?_
   refine hK13 _ _ ?_
   rcases zva (decide (((j:Nat):Int)<((k:Nat):Int)))with hc3|hc3
   ·refine wp_cond_true ((S.get rfl).trans (congrArg Value.bool hc3)) ?_
    have hjn:j<k:=by have:=of_decide_eq_true hc3;omega
    have hj9:j<l.length:=by omega
    have hk9:k<l.length:=by omega
    refine wp_skip ?_
    refine hK12 _ _ ?_
    refine wp_seq_k fun K14 hK14=>?_
    refine wp_block ?_
    refine wp_seq_k fun K15 hK15=>?_
    have S:=S.keep [5,4,3,0] rfl
    have hz:cz (pv l[j]) (pv l[k]) (pv l[i])=cz3 l j k i:=by unfold cz3;rw[zbR hj9,zbR hk9,zbR hin]
    refine fr 14 [22,23,24,25,26,27,28,29,30,31,32,33,34,35] [IsV (.slice A l.length c),IsV (.int .i64 ((j:Nat):Int)),IsV (.pointer (some (zbc A (j*6)))),IsV (.agg (zaD l[j]).toArray),IsV (.slice A l.length c),IsV (.int .i64 ((k:Nat):Int)),IsV (.pointer (some (zbc A (k*6)))),IsV (.agg (zaD l[k]).toArray),IsV (.slice A l.length c),IsV (.int .i64 ((i:Nat):Int)),IsV (.pointer (some (zbc A (i*6)))),IsV (.agg (zaD l[i]).toArray),IsV (.int .i64 (zag (cz (pv l[j]) (pv l[k]) (pv l[i])) 0)),IsV (.bool (!decide (zag (cz (pv l[j]) (pv l[k]) (pv l[i])) 0=0)))] S ?_ ?_
    ·refine sc (fun _ _ S _ _=>sv rfl (zab rfl (S.get rfl))) ?_
     refine sc (fun _ _ S _ _=>sv rfl (zab rfl (S.get rfl))) ?_
     refine sc (fun _ _ _ _ hd=>sv rfl (zeS hR hj9 rfl (hd.v 0 rfl rfl) (hd.v 1 rfl rfl))) ?_
     refine sc (fun _ _ S _ hd=>sv rfl (zga (hR.below S.below) hj9 rfl (hd.v 2 rfl rfl))) ?_
     refine sc (fun _ _ S _ _=>sv rfl (zab rfl (S.get rfl))) ?_
     refine sc (fun _ _ S _ _=>sv rfl (zab rfl (S.get rfl))) ?_
     refine sc (fun _ _ _ _ hd=>sv rfl (zeS hR hk9 rfl (hd.v 4 rfl rfl) (hd.v 5 rfl rfl))) ?_
     refine sc (fun _ _ S _ hd=>sv rfl (zga (hR.below S.below) hk9 rfl (hd.v 6 rfl rfl))) ?_
     refine sc (fun _ _ S _ _=>sv rfl (zab rfl (S.get rfl))) ?_
     refine sc (fun _ _ S _ _=>sv rfl (zab rfl (S.get rfl))) ?_
     refine sc (fun _ _ _ _ hd=>sv rfl (zeS hR hin rfl (hd.v 8 rfl rfl) (hd.v 9 rfl rfl))) ?_
     refine sc (fun _ _ S _ hd=>sv rfl (zga (hR.below S.below) hin rfl (hd.v 10 rfl rfl))) ?_
     refine sc (fun _ _ S _ hd=>sl rfl (rc3 Tryz.func11 (hd.v 3 rfl rfl) (hd.v 7 rfl rfl) (hd.v 11 rfl rfl)) (ziA (((hR.below S.below).more S.below.size).mem (List.getElem_mem hj9)) (((hR.below S.below).more S.below.size).mem (List.getElem_mem hk9)) (((hR.below S.below).more S.below.size).mem (List.getElem_mem hin)) (hK _ (List.getElem_mem hj9)) (hK _ (List.getElem_mem hk9)) (hK _ (List.getElem_mem hin)) hKb (hS _ (List.getElem_mem hj9) _ (List.getElem_mem hk9) _ (List.getElem_mem hin)))) ?_
     refine sc (fun _ _ _ _ hd=>sv rfl (zd6 _ (by decide) rfl (hd.v 12 rfl rfl) rfl)) ?_
     exact sn
    ·intro a4 V4 S hB4 hf
     have S:=S.add (hf.v 13 rfl rfl)
     show wpList _ _ _ [] _ _
     refine hK15 _ _ ?_
     rw[hz]at S
     rcases zva (!decide (zag (cz3 l j k i) 0=0))with hw|hw
     ·refine wp_cond_true ((S.at 0 rfl).trans (congrArg Value.bool hw)) ?_
      have hw':cz3 l j k i≠0:=fun h=>by rw[h,zd5]at hw;cases hw
      refine wp_seq_k fun K16 hK16=>?_
      have S:=S.keep [0] rfl
      refine zam ?_
      refine ac S fun a S=>?_
      refine hK16 _ _ ?_
      refine wp_ret ?_
      simp only[Exit.then,Exit.inBlock]
      exact zao rfl S (S.at 0 rfl) ⟨_,rfl,congrArg Value.bool (decide_eq_false (fun h=>hw' (ziB.2 h j k i hjn hkn hin))).symm,S.below⟩
     ·refine wp_cond_false ((S.at 0 rfl).trans (congrArg Value.bool hw)) ?_
      have hw':cz3 l j k i=0:=zcE.1 (by simpa using hw)
      refine wp_skip ?_
      refine hK14 _ _ ?_
      have S:=S.keep [5,4,3,0] rfl
      refine zam ?_
      refine tv S (zab rfl (S.get rfl)) fun a S=>?_
      refine tv S (zbj (k:=j) (m:=1) rfl (S.get rfl) rfl (by omega)) fun a S=>?_
      refine zav S (v:= .int .i64 ((j+1:Nat):Int)) (zac rfl (S.at 0 rfl)) rfl rfl (by decide) rfl (fun a S=>?_)
      have S:=S.keep [5,4,3,0] rfl
      refine⟨⟨j+1,⟨hjn,fun m hm=>?_⟩,S⟩,?_⟩
      ·rcases zu7 m j with h|h
       ·exact hdj m h
       ·obtain rfl:m=j:=by omega
        exact hw'
      ·have hm3:=S.at 0 rfl
       rw[hm2,hm3]
       simp only[intOf];omega
   ·refine wp_cond_false ((S.get rfl).trans (congrArg Value.bool hc3)) ?_
    have hjn:k≤j:=by have:=of_decide_eq_false hc3;omega
    refine wp_exit ?_
    refine hK10 _ _ ?_
    have S:=S.keep [4,3,0] rfl
    refine zam ?_
    refine tv S (zab rfl (S.get rfl)) fun a S=>?_
    refine tv S (zbj (k:=k) (m:=1) rfl (S.get rfl) rfl (by omega)) fun a S=>?_
    refine zav S (v:= .int .i64 ((k+1:Nat):Int)) (zac rfl (S.at 0 rfl)) rfl rfl (by decide) rfl (fun a S=>?_)
    have S:=S.keep [4,3,0] rfl
    refine⟨⟨k+1,⟨hkn,fun j2 m h1 h2=>?_⟩,S⟩,?_⟩
    ·rcases zu7 m k with h|h
     ·exact hdk j2 m h1 h
     ·obtain rfl:m=k:=by omega
      exact hdj j2 (by omega)
    ·have hm3:=S.at 0 rfl
     rw[hm1,hm3]
     simp only[intOf];omega
  ·refine wp_cond_false ((S.get rfl).trans (congrArg Value.bool hc2)) ?_
   have hkn:i≤k:=by have:=of_decide_eq_false hc2;omega
   refine wp_exit ?_
   refine hK6 _ _ ?_
   have S:=S.keep [3,0] rfl
   refine zam ?_
   refine tv S (zab rfl (S.get rfl)) fun a S=>?_
   refine tv S (zbj (k:=i) (m:=1) rfl (S.get rfl) rfl (by omega)) fun a S=>?_
   refine zav S (v:= .int .i64 ((i+1:Nat):Int)) (zac rfl (S.at 0 rfl)) rfl rfl (by decide) rfl (fun a S=>?_)
   have S:=S.keep [3,0] rfl
   refine⟨⟨i+1,⟨hin,fun j2 k2 m h1 h2 h3=>?_⟩,S⟩,?_⟩
   ·rcases zu7 m i with h|h
    ·exact hdone j2 k2 m h1 h2 h
    ·obtain rfl:m=i:=by omega
     exact hdk j2 k2 h1 (by omega)
   ·have hm3:=S.at 0 rfl
    rw[hm0,hm3]
    simp only[intOf];omega
 ·refine wp_cond_false ((S.get rfl).trans (congrArg Value.bool hc)) ?_
  have hin:l.length≤i:=by have:=of_decide_eq_false hc;omega
  refine wp_exit ?_
  refine hK2 _ _ ?_
  have S:=S.keep [0] rfl
  refine wsp fun K4 hK4=>?_
  refine ac S fun a S=>?_
  refine hK4 _ _ ?_
  refine wp_ret ?_
  exact zao rfl S (S.at 0 rfl) ⟨_,rfl,congrArg Value.bool (decide_eq_true (ziB.1 (fun j k m h1 h2 h3=>hdone j k m h1 h2 (by omega)))).symm,S.below⟩
def szP (p:PEl):Nat:=p.2.1.n+p.2.2.1.n+p.2.2.2.2.1.n+p.2.2.2.2.2.n
def zkW (l:List PEl):Nat:=(l.map fun p=>min (szP p) 1000).sum
def zby (l:List PEl):Bool:=decide (20<l.length)||decide (80<zkW (l.take 21))
theorem zox {l:List PEl}{k:Nat}{b b':Bool}{x y x' y':Num}(hk:k<l.length)(h:l[k]=(b,x,y,b',x',y')):zkW (l.take (k+1))=zkW (l.take k)+min (x.n+y.n+x'.n+y'.n) 1000:=by
 unfold zkW
 rw[List.take_succ_eq_append_getElem hk,List.map_append,List.sum_append,h]
 simp[szP]
theorem zqL {l:List PEl}{b:Bool}(h:decide ((20:Int)<((l.length:Nat):Int))=b):decide (20<l.length)=b:=by rw[←h];exact decide_eq_decide.2 (by omega)
theorem zhC {l:List PEl}(h:decide ((20:Int)<((l.length:Nat):Int))=true):true=zby l:=by unfold zby;rw[zqL h];rfl
theorem PRds.bounds {V:World}{hi:Nat}{A:Option Addr}{l:List PEl}{k:Nat}{b b':Bool}{x y x' y':Num}(h:PRds V hi A l)(hk:k<l.length)(hel:l[k]=(b,x,y,b',x',y')):(x.n≤35184372087808∧y.n≤35184372087808)∧x'.n≤35184372087808∧y'.n≤35184372087808:=by
 obtain⟨⟨h1,h2⟩,h3,h4⟩:=h.oks hk hel
 exact⟨⟨h1.2.2.2,h2.2.2.2⟩,h3.2.2.2,h4.2.2.2⟩
section
variable {a:Act}{V:World}{o:Oper}{t1 t2 t3 t4:Tmp}{k:Nat}
theorem zr7 (ho:o.op= .call { callee:= .builtin .min,args:= #[.tmp t1,.const (.int .i64 1000)],argTypes:= #[3,3] }) (h1:a.tmps.getD t1 undef= .int .i64 (k:Nat)):(execOp a.eval o).run Tryz.prog V= .ok (.value (.int .i64 ((min k 1000:Nat):Int))) V:=by
 have e:min (k:Int) 1000=((min k 1000:Nat):Int):=by omega
 rw[zaf]at h1
 obtain⟨dst,op,ty,pos,after,guard⟩:=o
 simp only at ho
 subst ho
 go_simp
end
theorem zr8 {A:Option Addr}{c:Nat}{l:List PEl}{V:World}(hR:PRds V V.heap.size A l)(hll:l.length≤100000000000000):
  Calls Tryz.prog 7 #[.slice A l.length c] V (zaj V (fun v _=>v= .bool (zby l))):=by
 refine fb Tryz.func7 Tryz.ntmps7 zaC (fun a S=>?_)
 refine wsp fun K1 hK1=>?_
 refine ac S fun a S=>?_
 refine hK1 _ _ ?_
 refine wsp fun K2 hK2=>?_
 refine ac S fun a S=>?_
 refine hK2 _ _ ?_
 refine wp_seq_k fun K3 hK3=>?_
 refine wsp fun K4 hK4=>?_
 refine ac S fun a S=>?_
 refine hK4 _ _ ?_
 refine wp_block ?_
 have S:=S.keep [4,3,0] (ls':=[(4,.int .i64 0),(3,.int .i64 0),(0,.slice A l.length c)]) rfl
 have S:=S.sel [0,1,2] rfl
 have S:=S.seln [] rfl
 have S:=S.reorder [] rfl (by decide)
 refine wp_loop (fun aI VI=>∃(k:Nat) (s:Nat),(s=zkW (l.take k))∧(k≤l.length)∧(k≤21)∧(s≤k*1000)∧Frm 58 [(4,.int .i64 (((k:Nat):Int))),(3,.int .i64 (((s:Nat):Int))),(0,.slice A l.length c)] [] V [] aI VI) (fun aI _=>(21) - (intOf (aI.tmps.getD 4 undef)).toNat) ⟨0,0,rfl,Nat.zero_le _,(by decide),(by decide),S⟩ ?_
 rintro a1 V1 ⟨k,s,hI,hkl,hk6,hs6,S⟩
 have hm0:a1.tmps.getD 4 undef= .int .i64 (((k:Nat):Int)):=S.at 0 rfl
 refine wp_seq_k fun K5 hK5=>?_
 refine wp_seq_k fun K6 hK6=>?_
 rcases zva (decide (((k:Nat):Int)<((l.length:Nat):Int)))with hs2_|hs2_
 ·skip
  have hlt:k<l.length:=by have:=of_decide_eq_true hs2_;omega
  obtain⟨be,xe,ye,be2,xe2,ye2,hel⟩:∃b x y b' x' y',l[k]=(b,x,y,b',x',y'):=⟨_,_,_,_,_,_,rfl⟩
  obtain⟨⟨hea,heb⟩,hec,hed⟩:=hR.oks hlt hel
  have S:=S.know (hea.later S.below)
  have S:=S.know (heb.later S.below)
  have S:=S.know (hec.later S.below)
  have S:=S.know (hed.later S.below)
  refine zam ?_
  refine mv S 0 fun a S=>?_
  refine mv S 3 fun a S=>?_
  refine tv S (zbf rfl (S.at 0 rfl)) fun a S=>?_
  refine tv S (zaN (zb7 rfl (S.at 2 rfl) (S.at 0 rfl)) (show(decide (((k:Nat):Int)<((l.length:Nat):Int)))=true from hs2_)) fun a S=>?_
  refine mv S 0 fun a S=>?_
  refine tvg S (S.at 0 rfl) (zab rfl (S.at 5 rfl)) fun a S=>?_
  refine tvg S (S.at 1 rfl) (zfj rfl (S.at 0 rfl) rfl) fun a S=>?_
  refine tv S (zap true rfl (S.at 2 rfl) (S.at 0 rfl)) fun a S=>?_
  refine hK6 _ _ ?_
  rcases zva (decide (((k:Nat):Int)≤20))with hc12|hc12
  ·refine wp_cond_true ((S.at 0 rfl).trans (congrArg Value.bool hc12)) ?_
   have hk20:k≤20:=by have:=of_decide_eq_true hc12;omega
   refine wp_skip ?_
   refine hK5 _ _ ?_
   refine wp_seq_k fun K7 hK7=>?_
   refine wp_block ?_
   have hb9:=(hR.bounds hlt hel)
   have S:=S.keep [4,3,0] (ls':=[(4,.int .i64 (((k:Nat):Int))),(3,.int .i64 (((s:Nat):Int))),(0,.slice A l.length c)]) rfl
   obtain⟨W1,hW1⟩:∃W,W=V1:=⟨_,rfl⟩
   rw[←hW1]at S ⊢
   have S0:=S
   refine fr 36 [15,16,17,18,19,20,21,22,23,24,25,26,27,28,29,30,31,32,33,34,35,36,37,38,39,40,41,42,43,44,45,46,47,48,49,50] [IsV (.int .i64 (((s:Nat):Int))),IsV (.slice A l.length c),IsV (.int .i64 (((k:Nat):Int))),IsV (.pointer (some (zbc A (k*6)))),IsV (.pointer (some (zbc A (k*6)))),IsV (.pointer (some (zbc A (k*6)))),IsV (.pointer (some (zbc A (k*6+1)))),IsV (aS xe),IsV (.int .i64 (((xe.n:Nat):Int))),IsV (.slice A l.length c),IsV (.int .i64 (((k:Nat):Int))),IsV (.pointer (some (zbc A (k*6)))),IsV (.pointer (some (zbc A (k*6)))),IsV (.pointer (some (zbc A (k*6+2)))),IsV (aS ye),IsV (.int .i64 (((ye.n:Nat):Int))),IsV (.int .i64 (((xe.n+ye.n:Nat):Int))),IsV (.slice A l.length c),IsV (.int .i64 (((k:Nat):Int))),IsV (.pointer (some (zbc A (k*6)))),IsV (.pointer (some (zbc A (k*6+3)))),IsV (.pointer (some (zbc A (k*6+3)))),IsV (.pointer (some (zbc A (k*6+3+1)))),IsV (aS xe2),IsV (.int .i64 (((xe2.n:Nat):Int))),IsV (.int .i64 ((((xe.n+ye.n)+xe2.n:Nat):Int))),IsV (.slice A l.length c),IsV (.int .i64 (((k:Nat):Int))),IsV (.pointer (some (zbc A (k*6)))),IsV (.pointer (some (zbc A (k*6+3)))),IsV (.pointer (some (zbc A (k*6+3+2)))),IsV (aS ye2),IsV (.int .i64 (((ye2.n:Nat):Int))),IsV (.int .i64 (((((xe.n+ye.n)+xe2.n)+ye2.n:Nat):Int))),IsV (.int .i64 (((min (((xe.n+ye.n)+xe2.n)+ye2.n) 1000:Nat):Int))),IsV (.int .i64 (((s+(min (((xe.n+ye.n)+xe2.n)+ye2.n) 1000):Nat):Int)))] S ?_ ?_
   ·refine sc (fun _ _ S _ _=>sv rfl (zab rfl (S.at 1 rfl))) ?_
    refine sc (fun _ _ S _ _=>sv rfl (zab rfl (S.at 2 rfl))) ?_
    refine sc (fun _ _ S _ _=>sv rfl (zab rfl (S.at 0 rfl))) ?_
    refine sc (fun _ _ _ _ hd=>sv rfl (zcq (hR.el hlt hel).s hlt rfl (hd.v 1 rfl rfl) (hd.v 2 rfl rfl))) ?_
    refine sc (fun _ _ _ _ hd=>sv rfl (zdH zm5 rfl (hd.v 3 rfl rfl))) ?_
    refine sc (fun _ _ _ _ hd=>sv rfl (zdH zk6 rfl (hd.v 4 rfl rfl))) ?_
    refine sc (fun _ _ _ _ hd=>sv rfl (zdH (zk8 (hR.el hlt hel).s) rfl (hd.v 5 rfl rfl))) ?_
    refine sc (fun _ _ S _ hd=>sv rfl (zjJ ((hR.below S.below).el hlt hel).c1 rfl (hd.v 6 rfl rfl))) ?_
    refine sc (fun _ _ _ _ hd=>sv rfl (zcT (by decide) rfl (hd.v 7 rfl rfl))) ?_
    refine sc (fun _ _ S _ _=>sv rfl (zab rfl (S.at 2 rfl))) ?_
    refine sc (fun _ _ S _ _=>sv rfl (zab rfl (S.at 0 rfl))) ?_
    refine sc (fun _ _ _ _ hd=>sv rfl (zcq (hR.el hlt hel).s hlt rfl (hd.v 9 rfl rfl) (hd.v 10 rfl rfl))) ?_
    refine sc (fun _ _ _ _ hd=>sv rfl (zdH zm5 rfl (hd.v 11 rfl rfl))) ?_
    refine sc (fun _ _ _ _ hd=>sv rfl (zdH (zk7 (hR.el hlt hel).s) rfl (hd.v 12 rfl rfl))) ?_
    refine sc (fun _ _ S _ hd=>sv rfl (zjJ ((hR.below S.below).el hlt hel).c2 rfl (hd.v 13 rfl rfl))) ?_
    refine sc (fun _ _ _ _ hd=>sv rfl (zcT (by decide) rfl (hd.v 14 rfl rfl))) ?_
    refine sc (fun _ _ _ _ hd=>sv rfl (zbj (k:=xe.n) (m:=ye.n) rfl (hd.v 8 rfl rfl) (hd.v 15 rfl rfl) (by omega))) ?_
    refine sc (fun _ _ S _ _=>sv rfl (zab rfl (S.at 2 rfl))) ?_
    refine sc (fun _ _ S _ _=>sv rfl (zab rfl (S.at 0 rfl))) ?_
    refine sc (fun _ _ _ _ hd=>sv rfl (zcq (hR.el hlt hel).s hlt rfl (hd.v 17 rfl rfl) (hd.v 18 rfl rfl))) ?_
    refine sc (fun _ _ _ _ hd=>sv rfl (zdH (zm6 (hR.el hlt hel).s) rfl (hd.v 19 rfl rfl))) ?_
    refine sc (fun _ _ _ _ hd=>sv rfl (zdH zk6 rfl (hd.v 20 rfl rfl))) ?_
    refine sc (fun _ _ _ _ hd=>sv rfl (zdH (zk8 (hR.el hlt hel).s) rfl (hd.v 21 rfl rfl))) ?_
    refine sc (fun _ _ S _ hd=>sv rfl (zjJ ((hR.below S.below).el hlt hel).c4 rfl (hd.v 22 rfl rfl))) ?_
    refine sc (fun _ _ _ _ hd=>sv rfl (zcT (by decide) rfl (hd.v 23 rfl rfl))) ?_
    refine sc (fun _ _ _ _ hd=>sv rfl (zbj (k:=xe.n+ye.n) (m:=xe2.n) rfl (hd.v 16 rfl rfl) (hd.v 24 rfl rfl) (by omega))) ?_
    refine sc (fun _ _ S _ _=>sv rfl (zab rfl (S.at 2 rfl))) ?_
    refine sc (fun _ _ S _ _=>sv rfl (zab rfl (S.at 0 rfl))) ?_
    refine sc (fun _ _ _ _ hd=>sv rfl (zcq (hR.el hlt hel).s hlt rfl (hd.v 26 rfl rfl) (hd.v 27 rfl rfl))) ?_
    refine sc (fun _ _ _ _ hd=>sv rfl (zdH (zm6 (hR.el hlt hel).s) rfl (hd.v 28 rfl rfl))) ?_
    refine sc (fun _ _ _ _ hd=>sv rfl (zdH (zk7 (hR.el hlt hel).s) rfl (hd.v 29 rfl rfl))) ?_
    refine sc (fun _ _ S _ hd=>sv rfl (zjJ ((hR.below S.below).el hlt hel).c5 rfl (hd.v 30 rfl rfl))) ?_
    refine sc (fun _ _ _ _ hd=>sv rfl (zcT (by decide) rfl (hd.v 31 rfl rfl))) ?_
    refine sc (fun _ _ _ _ hd=>sv rfl (zbj (k:=(xe.n+ye.n)+xe2.n) (m:=ye2.n) rfl (hd.v 25 rfl rfl) (hd.v 32 rfl rfl) (by omega))) ?_
    refine sc (fun _ _ _ _ hd=>sv rfl (zr7 (k:=((xe.n+ye.n)+xe2.n)+ye2.n) rfl (hd.v 33 rfl rfl))) ?_
    refine sc (fun _ _ _ _ hd=>sv rfl (zbj (k:=s) (m:=min (((xe.n+ye.n)+xe2.n)+ye2.n) 1000) rfl (hd.v 0 rfl rfl) (hd.v 34 rfl rfl) (by omega))) ?_
    exact sn
   ·intro a2 V2 S hB hf
    have S:=S.add (hf.v 35 rfl rfl)
    clear hf S0
    show wpList _ _ _ [_] _ _
    refine zav S (v:= .int .i64 (((s+(min (((xe.n+ye.n)+xe2.n)+ye2.n) 1000):Nat):Int))) (zac rfl (S.at 0 rfl)) rfl rfl (by decide) (ls':=[(50,.int .i64 (((s+(min (((xe.n+ye.n)+xe2.n)+ye2.n) 1000):Nat):Int))),(4,.int .i64 (((k:Nat):Int))),(0,.slice A l.length c)]) rfl (fun a S=>?_)
    refine hK7 _ _ ?_
    refine zam ?_
    refine mv S 2 fun a S=>?_
    refine tv S (zbj (k:=k) (m:=1) rfl (S.at 0 rfl) rfl (by omega)) fun a S=>?_
    refine zav S (v:= .int .i64 (((k+1:Nat):Int))) (zac rfl (S.at 0 rfl)) rfl rfl (by decide) (ls':=[(14,.int .i64 (((k+1:Nat):Int))),(13,.int .i64 (((k:Nat):Int))),(3,.int .i64 (((s+(min (((xe.n+ye.n)+xe2.n)+ye2.n) 1000):Nat):Int))),(50,.int .i64 (((s+(min (((xe.n+ye.n)+xe2.n)+ye2.n) 1000):Nat):Int))),(0,.slice A l.length c)]) rfl (fun a S=>?_)
    have hI2:s+min (xe.n+ye.n+xe2.n+ye2.n) 1000=zkW (l.take (k+1)):=by rw[hI];exact(zox hlt hel).symm
    have S:=S.sel [0,3,5] rfl
    have S:=S.seln [] rfl
    have S:=S.reorder [] rfl (by decide)
    refine⟨⟨k+1,s+min (xe.n+ye.n+xe2.n+ye2.n) 1000,hI2,hlt,(by have:=of_decide_eq_true hc12;omega),(by omega),S⟩,?_⟩
    have hm1:=S.at 0 rfl
    rw[hm0,hm1]
    simp only[intOf];omega
  ·refine wp_cond_false ((S.at 0 rfl).trans (congrArg Value.bool hc12)) ?_
   have hend:l.take 21=l.take k:=by have:=of_decide_eq_false hc12;rw[show k=21 by omega]
   refine wp_exit ?_
   refine hK3 _ _ ?_
   refine wp_seq_k fun K8 hK8=>?_
   rcases zva (decide ((20:Int)<((l.length:Nat):Int)))with hs6_|hs6_
   ·skip
    refine zam ?_
    refine mv S 10 fun a S=>?_
    refine tv S (zbf rfl (S.at 0 rfl)) fun a S=>?_
    refine tv S (zaN (zb8 rfl (S.at 0 rfl) rfl) (show(decide (20<((l.length:Nat):Int)))=true from hs6_)) fun a S=>?_
    refine mv S 0 fun a S=>?_
    refine tk S (S.at 0 rfl) fun a S=>?_
    refine tk S (S.at 1 rfl) fun a S=>?_
    refine tv S (zap true rfl (S.at 2 rfl) rfl) fun a S=>?_
    refine tv S (zac rfl (S.at 0 rfl)) fun a S=>?_
    refine hK8 _ _ ?_
    refine wp_ret ?_
    exact zao rfl S (S.at 0 rfl) ⟨_,rfl,congrArg Value.bool (zhC hs6_),S.below⟩
   ·skip
    refine zam ?_
    refine mv S 10 fun a S=>?_
    refine tv S (zbf rfl (S.at 0 rfl)) fun a S=>?_
    refine tv S (zaN (zb8 rfl (S.at 0 rfl) rfl) (show(decide (20<((l.length:Nat):Int)))=false from hs6_)) fun a S=>?_
    refine mv S 0 fun a S=>?_
    refine tvg S (S.at 0 rfl) (zab rfl (S.at 13 rfl)) fun a S=>?_
    refine tvg S (S.at 1 rfl) (zb8 rfl (S.at 0 rfl) rfl) fun a S=>?_
    refine tv S (zap false rfl (S.at 2 rfl) (S.at 0 rfl)) fun a S=>?_
    refine tv S (zac rfl (S.at 0 rfl)) fun a S=>?_
    refine hK8 _ _ ?_
    refine wp_ret ?_
    exact zao rfl S (S.at 0 rfl) ⟨_,rfl,congrArg Value.bool (show _=zby l by unfold zby;rw[zqL hs6_,hend,←hI,Bool.false_or];exact decide_eq_decide.2 (by omega)),S.below⟩
 ·skip
  have hge:l.length≤k:=by have:=of_decide_eq_false hs2_;omega
  have hend:l.take 21=l.take k:=by rw[List.take_of_length_le hge,List.take_of_length_le (by omega)]
  refine zam ?_
  refine mv S 0 fun a S=>?_
  refine mv S 3 fun a S=>?_
  refine tv S (zbf rfl (S.at 0 rfl)) fun a S=>?_
  refine tv S (zaN (zb7 rfl (S.at 2 rfl) (S.at 0 rfl)) (show(decide (((k:Nat):Int)<((l.length:Nat):Int)))=false from hs2_)) fun a S=>?_
  refine mv S 0 fun a S=>?_
  refine tk S (S.at 0 rfl) fun a S=>?_
  refine tk S (S.at 1 rfl) fun a S=>?_
  refine tv S (zap false rfl (S.at 2 rfl) rfl) fun a S=>?_
  refine hK6 _ _ ?_
  refine wp_cond_false (S.at 0 rfl) ?_
  refine wp_exit ?_
  refine hK3 _ _ ?_
  refine wp_seq_k fun K9 hK9=>?_
  rcases zva (decide ((20:Int)<((l.length:Nat):Int)))with hs6_|hs6_
  ·skip
   refine zam ?_
   refine mv S 10 fun a S=>?_
   refine tv S (zbf rfl (S.at 0 rfl)) fun a S=>?_
   refine tv S (zaN (zb8 rfl (S.at 0 rfl) rfl) (show(decide (20<((l.length:Nat):Int)))=true from hs6_)) fun a S=>?_
   refine mv S 0 fun a S=>?_
   refine tk S (S.at 0 rfl) fun a S=>?_
   refine tk S (S.at 1 rfl) fun a S=>?_
   refine tv S (zap true rfl (S.at 2 rfl) rfl) fun a S=>?_
   refine tv S (zac rfl (S.at 0 rfl)) fun a S=>?_
   refine hK9 _ _ ?_
   refine wp_ret ?_
   exact zao rfl S (S.at 0 rfl) ⟨_,rfl,congrArg Value.bool (zhC hs6_),S.below⟩
  ·skip
   refine zam ?_
   refine mv S 10 fun a S=>?_
   refine tv S (zbf rfl (S.at 0 rfl)) fun a S=>?_
   refine tv S (zaN (zb8 rfl (S.at 0 rfl) rfl) (show(decide (20<((l.length:Nat):Int)))=false from hs6_)) fun a S=>?_
   refine mv S 0 fun a S=>?_
   refine tvg S (S.at 0 rfl) (zab rfl (S.at 13 rfl)) fun a S=>?_
   refine tvg S (S.at 1 rfl) (zb8 rfl (S.at 0 rfl) rfl) fun a S=>?_
   refine tv S (zap false rfl (S.at 2 rfl) (S.at 0 rfl)) fun a S=>?_
   refine tv S (zac rfl (S.at 0 rfl)) fun a S=>?_
   refine hK9 _ _ ?_
   refine wp_ret ?_
   exact zao rfl S (S.at 0 rfl) ⟨_,rfl,congrArg Value.bool (show _=zby l by unfold zby;rw[zqL hs6_,hend,←hI,Bool.false_or];exact decide_eq_decide.2 (by omega)),S.below⟩
theorem zdq {ps:List PEl}{G:Bool}{v:Value}{V:World}(h:GP ps v V)(hG:zby ps=G):Calls Tryz.prog 7 #[v] V (zaj V fun v _=>v= .bool G):=by
 obtain⟨A,c,rfl,hR,hl,-⟩:=h
 rw[←hG]
 exact zr8 hR hl
theorem ztI {L:List Int}{v1 v2:Value}{V:World}(h1:IRow L v1 V)(h2:IRow L v2 V):Calls Tryz.prog 12 #[v1,v2] V (zaj V fun v _=>v= .bool true):=by
 obtain⟨A,c,rfl,hl,hA⟩:=h1
 obtain⟨B,d,rfl,-,hB⟩:=h2
 refine fb Tryz.func12 Tryz.ntmps12 zaC (fun a S=>?_)
 refine wsp fun K1 hK1=>?_
 refine ac S fun a S=>?_
 refine hK1 _ _ ?_
 refine wp_seq_k fun K2 hK2=>?_
 refine wsp fun K3 hK3=>?_
 refine tv S (zab rfl (S.get rfl)) fun a S=>?_
 refine tv S (zgT rfl (S.get rfl)) fun a S=>?_
 refine tv S (zab rfl (S.get rfl)) fun a S=>?_
 refine tv S (zgT rfl (S.get rfl)) fun a S=>?_
 refine tv S (zaN (zd6 _ (by decide) rfl (S.get rfl) (S.get rfl)) (show(!decide (((L.length:Nat):Int)=((L.length:Nat):Int)))=false by simp)) fun a S=>?_
 refine hK3 _ _ ?_
 refine wp_cond_false (S.at 0 rfl) ?_
 refine wp_skip ?_
 refine hK2 _ _ ?_
 refine wp_seq_k fun K4 hK4=>?_
 refine wp_seq_k fun K5 hK5=>?_
 have S:=S.keep [0,1] rfl
 refine zam ?_
 refine ac S fun a S=>?_
 refine hK5 _ _ ?_
 refine wp_block ?_
 refine wp_loop (fun aI VI=>∃k:Nat,k≤L.length∧Frm 26 [(5,.int .i64 ((k:Nat):Int)),(0,.slice A L.length c),(1,.slice B L.length d)] [] V [] aI VI) (fun aI _=>L.length - (intOf (aI.tmps.getD 5 undef)).toNat) ⟨0,Nat.zero_le _,S⟩ ?_
 clear S
 rintro a1 V1 ⟨k,hkl,S⟩
 have hm0:a1.tmps.getD 5 undef= .int .i64 ((k:Nat):Int):=S.at 0 rfl
 refine wp_seq_k fun K6 hK6=>?_
 refine wsp fun K7 hK7=>?_
 refine tv S (zab rfl (S.get rfl)) fun a S=>?_
 refine tv S (zab rfl (S.get rfl)) fun a S=>?_
 refine tv S (zgT rfl (S.get rfl)) fun a S=>?_
 refine tv S (zb7 rfl (S.get rfl) (S.get rfl)) fun a S=>?_
 refine hK7 _ _ ?_
 rcases zva (decide (((k:Nat):Int)<((L.length:Nat):Int)))with hc|hc
 ·refine wp_cond_true ((S.get rfl).trans (congrArg Value.bool hc)) ?_
  have hlt:k<L.length:=by have:=of_decide_eq_true hc;omega
  obtain⟨ad,eA,hab,hac⟩:=hA k hlt
  obtain⟨bd,eB,hbb,hbc⟩:=hB k hlt
  refine wp_skip ?_
  refine hK6 _ _ ?_
  refine wp_seq_k fun K8 hK8=>?_
  refine wp_block ?_
  refine wp_seq_k fun K9 hK9=>?_
  have S:=S.keep [5,0,1] rfl
  have ha:∀ {V'},Below V.heap.size V V'→V'.cell? (ad.add k)=some (.int .i64 L[k]):=fun hb=>(hb.cell (by rw[zaG];exact hab)).trans hac
  have hb:∀ {V'},Below V.heap.size V V'→V'.cell? (bd.add k)=some (.int .i64 L[k]):=fun hb=>(hb.cell (by rw[zaG];exact hbb)).trans hbc
  refine fr 9 [17,18,19,20,21,22,23,24,25] [IsV (.slice A L.length c),IsV (.int .i64 ((k:Nat):Int)),IsV (.pointer (some (ad.add k))),IsV (.int .i64 L[k]),IsV (.slice B L.length d),IsV (.int .i64 ((k:Nat):Int)),IsV (.pointer (some (bd.add k))),IsV (.int .i64 L[k]),IsV (.bool (!decide (L[k]=L[k])))] S ?_ ?_
  ·refine sc (fun _ _ S _ _=>sv rfl (zab rfl (S.get rfl))) ?_
   refine sc (fun _ _ S _ _=>sv rfl (zab rfl (S.get rfl))) ?_
   refine sc (fun _ _ _ _ hd=>sv rfl (zgS eA hlt rfl (hd.v 0 rfl rfl) (hd.v 1 rfl rfl))) ?_
   refine sc (fun _ _ S _ hd=>sv rfl (zqR (ha S.below) rfl (hd.v 2 rfl rfl))) ?_
   refine sc (fun _ _ S _ _=>sv rfl (zab rfl (S.get rfl))) ?_
   refine sc (fun _ _ S _ _=>sv rfl (zab rfl (S.get rfl))) ?_
   refine sc (fun _ _ _ _ hd=>sv rfl (zgS eB hlt rfl (hd.v 4 rfl rfl) (hd.v 5 rfl rfl))) ?_
   refine sc (fun _ _ S _ hd=>sv rfl (zqR (hb S.below) rfl (hd.v 6 rfl rfl))) ?_
   refine sc (fun _ _ _ _ hd=>sv rfl (zd6 _ (by decide) rfl (hd.v 3 rfl rfl) (hd.v 7 rfl rfl))) ?_
   exact sn
  ·intro a2 V2 S hB2 hf
   have S:=S.add (hf.v 8 rfl rfl)
   show wpList _ _ _ [] _ _
   refine hK9 _ _ ?_
   refine wp_cond_false ((S.at 0 rfl).trans (congrArg Value.bool (show(!decide (L[k]=L[k]))=false by simp))) ?_
   refine wp_skip ?_
   refine hK8 _ _ ?_
   have S:=S.keep [5,0,1] rfl
   refine zam ?_
   refine tv S (zab rfl (S.get rfl)) fun a S=>?_
   refine tv S (zbj (k:=k) (m:=1) rfl (S.get rfl) rfl (by omega)) fun a S=>?_
   refine zav S (v:= .int .i64 ((k+1:Nat):Int)) (zac rfl (S.at 0 rfl)) rfl rfl (by decide) rfl (fun a S=>?_)
   have S:=S.keep [5,0,1] rfl
   refine⟨⟨k+1,hlt,S⟩,?_⟩
   have hm1:=S.at 0 rfl
   rw[hm0,hm1]
   simp only[intOf];omega
 ·refine wp_cond_false ((S.get rfl).trans (congrArg Value.bool hc)) ?_
  refine wp_exit ?_
  refine hK4 _ _ ?_
  refine wp_seq_k fun K8 hK8=>?_
  have S:=S.keep [0,1] rfl
  refine zam ?_
  refine ac S fun a S=>?_
  refine hK8 _ _ ?_
  refine wp_ret ?_
  exact zao rfl S (S.at 0 rfl) ⟨_,rfl,rfl,S.below⟩
section
variable {b:Bool}{x y:Num}{q a a' c c' p p':Rat}{V:World}{k0 k0' k1 k1' k2 k2':Nat}
theorem smq (h:qOf b x.N y.N=q)(ox:x.ok V V.heap.size)(oy:y.ok V V.heap.size):Sm (max 1 (x.n+y.n)) q:=by
 have:=Q1.sm (V:=V) (K:=x.n+y.n) ⟨b,x,y,rfl,h,by omega,by omega,ox,oy⟩
 rwa [Nat.max_comm]at this
theorem zmb (m0:Sm k0 a)(m0':Sm k0' a')(m1:Sm k1 c)(m1':Sm k1' c')(m2:Sm k2 p)(m2':Sm k2' p')(h:k0+k0'+k1+k1'+k2+k2'≤172):SmS a a' c c' p p':=
 ⟨(m1.sub m0).mono (by omega),(m1'.sub m0').mono (by omega),(m2.sub m0).mono (by omega),(m2'.sub m0').mono (by omega),((m1.sub m0).mul (m2'.sub m0')).mono (by omega),((m1'.sub m0').mul (m2.sub m0)).mono (by omega),(((m1.sub m0).mul (m2'.sub m0')).sub ((m1'.sub m0').mul (m2.sub m0))).mono (by omega)⟩
theorem sm0 {k:Nat}(h:1≤k):Sm k 0:=zmO.mono h
theorem zqM:SmS a a' a a' a a':=by
 have e:∀x:Rat,x - x=0:=fun x=>by grind
 refine⟨?_,?_,?_,?_,?_,?_,?_⟩ <;> simp only[e,Rat.zero_mul] <;> exact sm0 (by decide)
theorem zcL {l:List PEl}(h:zby l=false):l.length≤20∧(l.map szP).sum≤80:=by
 unfold zby at h
 rw[Bool.or_eq_false_iff]at h
 have h2:l.length≤20:=by have:=of_decide_eq_false h.1;omega
 have h3:=of_decide_eq_false h.2
 rw[List.take_of_length_le (by omega)]at h3
 refine⟨h2,?_⟩
 have key:∀l:List PEl,zkW l≤80→(l.map szP).sum≤80:=by
  intro l
  induction l with
  |nil=>intro _;decide
  |cons p l ih=>
   unfold zkW
   simp only[List.map_cons,List.sum_cons]
   intro h
   have h4:(l.map szP).sum=(l.map fun p=>min (szP p) 1000).sum:=by
    have:∀l:List PEl,(l.map fun p=>min (szP p) 1000).sum≤80→(l.map szP).sum=(l.map fun p=>min (szP p) 1000).sum:=by
     intro l
     induction l with
     |nil=>intro _;rfl
     |cons q l ih2=>
      simp only[List.map_cons,List.sum_cons]
      intro h
      rw[ih2 (by omega)]
      omega
    exact this l (by omega)
   omega
 exact key l (by omega)
theorem zjA:∀(l:List Nat) (i:Nat) (h:i<l.length),l[i]≤l.sum
 |x::l,0,_=>by simp
 |x::l,i+1,h=>by have:=zjA l i (by simpa using h);simp;omega
theorem zjB:∀(l:List Nat) (i j:Nat) (h:j<l.length) (hij:i<j),l[i]+l[j]≤l.sum
 |x::l,0,j+1,h,_=>by have:=zjA l j (by simpa using h);simp;omega
 |x::l,i+1,j+1,h,hij=>by have:=zjB l i j (by simpa using h) (by omega);simp;omega
def sX (p:PEl):Nat:=max 1 (p.2.1.n+p.2.2.1.n)
def sY (p:PEl):Nat:=max 1 (p.2.2.2.2.1.n+p.2.2.2.2.2.n)
theorem sXY (p:PEl):sX p+sY p≤szP p+2:=by unfold sX sY szP;omega
theorem okP.sm {p:PEl}(h:okP V p):Sm (sX p) (pv p).1∧Sm (sY p) (pv p).2:=⟨smq rfl h.1.1 h.1.2,smq rfl h.2.1 h.2.2⟩
theorem zgP {l:List PEl}(hs:(l.map szP).sum≤80){i j:Nat}(hi:i<l.length)(hj:j<l.length)(hij:i≠j):szP l[i]+szP l[j]≤80:=by
 rcases zu7 i j with h|h
 ·have:=zjB (l.map szP) i j (by simpa using hj) h
  simp only[List.getElem_map]at this;omega
 ·have:=zjB (l.map szP) j i (by simpa using hi) (by omega)
  simp only[List.getElem_map]at this;omega
theorem zjC {l:List PEl}(hs:(l.map szP).sum≤80){i:Nat}(hi:i<l.length):szP l[i]≤80:=by
 have:=zjA (l.map szP) i (by simpa using hi)
 simp only[List.getElem_map]at this;omega
theorem zr9 {l:List PEl}(hs:(l.map szP).sum≤80){i j k:Nat}(hi:i<l.length)(hj:j<l.length)(hk:k<l.length)(h: ¬(i=j∧j=k)):szP l[i]+szP l[j]+szP l[k]≤160:=by
 have h1:=zjC hs hi
 have h2:=zjC hs hj
 have h3:=zjC hs hk
 rcases Nat.lt_trichotomy i j with a1|rfl|a1
 ·have:=zgP hs hi hj (by omega);omega
 ·have:=zgP hs hi hk (by omega);omega
 ·have:=zgP hs hi hj (by omega);omega
theorem zeT {l:List PEl}(hs:(l.map szP).sum≤80):∀p∈l,zbX 80 p:=fun p hp=>by
 obtain⟨i,hi,rfl⟩:=List.mem_iff_getElem.1 hp
 have:=zjC hs hi
 unfold szP at this
 exact⟨⟨by omega,by omega⟩,by omega,by omega⟩
theorem zmX {l:List PEl}(hok:∀p∈l,okP V p)(hs:(l.map szP).sum≤80):Smd 250 l:=by
 intro p hp q hq
 obtain⟨i,hi,rfl⟩:=List.mem_iff_getElem.1 hp
 obtain⟨j,hj,rfl⟩:=List.mem_iff_getElem.1 hq
 by_cases hij:i=j
 ·subst hij
  have e:∀x:Rat,x - x=0:=fun x=>by grind
  simp only[e]
  exact⟨sm0 (by decide),sm0 (by decide)⟩
 ·have h1:=zgP hs hi hj hij
  have h2:=sXY l[i]
  have h3:=sXY l[j]
  obtain⟨m1,m1'⟩:=(hok _ hp).sm
  obtain⟨m2,m2'⟩:=(hok _ hq).sm
  exact⟨(m2.sub m1).mono (by omega),(m2'.sub m1').mono (by omega)⟩
theorem zmY {l:List PEl}(hok:∀p∈l,okP V p)(hs:(l.map szP).sum≤80):∀p∈l,∀q∈l,∀r∈l,SmE p q r:=by
 intro p hp q hq r hr
 obtain⟨i,hi,rfl⟩:=List.mem_iff_getElem.1 hp
 obtain⟨j,hj,rfl⟩:=List.mem_iff_getElem.1 hq
 obtain⟨k,hk,rfl⟩:=List.mem_iff_getElem.1 hr
 by_cases h:i=j∧j=k
 ·obtain⟨rfl,rfl⟩:=h
  exact zqM
 ·have h0:=zr9 hs hi hj hk h
  have h1:=sXY l[i]
  have h2:=sXY l[j]
  have h3:=sXY l[k]
  obtain⟨m1,m1'⟩:=(hok _ hp).sm
  obtain⟨m2,m2'⟩:=(hok _ hq).sm
  obtain⟨m3,m3'⟩:=(hok _ hr).sm
  exact zmb m1 m1' m2 m2' m3 m3' (by omega)
theorem zoy {K:Nat}{l:List PEl}(hok:∀p∈l,okP V p)(hK:∀p∈l,zbX K p)(hKb:K≤50):Smd 250 l:=by
 intro p hp q hq
 obtain⟨m1,m1'⟩:=(hok _ hp).sm
 obtain⟨m2,m2'⟩:=(hok _ hq).sm
 obtain⟨⟨a1,a2⟩,a3,a4⟩:=hK _ hp
 obtain⟨⟨b1,b2⟩,b3,b4⟩:=hK _ hq
 unfold sX at m1 m2
 unfold sY at m1' m2'
 exact⟨(m2.sub m1).mono (by omega),(m2'.sub m1').mono (by omega)⟩
end
def IEl (z:Int)(v:Value)(V:World):Prop:=∃p:Addr,v= .pointer (some p)∧p.block<V.heap.size∧V.cell? p=some (.int .i64 z)
section
variable {V V':World}{v v1:Value}{z:Int}{L:List Int}{a:Act}{o:Oper}{t1:Tmp}
theorem IEl.keep (h:IEl z v V)(hb:Below V.heap.size V V'):IEl z v V':=by
 obtain⟨p,h1,h2,h3⟩:=h
 exact⟨p,h1,zu4 h2 hb.size,(hb.cell h2).trans h3⟩
instance:Keeps (IEl z):=⟨fun h hb=>IEl.keep h hb⟩
theorem zuz (h:IRow L v V){i:Nat}(hi:i<L.length):∃(A:Option Addr) (ad:Addr) (n c:Nat),v= .slice A n c∧A=some ad∧i<n∧IEl L[i] (.pointer (some (ad.add i))) V:=by
 obtain⟨A,c,h1,h2,h3⟩:=h
 obtain⟨ad,e,h4,h5⟩:=h3 i hi
 exact⟨A,ad,_,c,h1,e,hi,_,rfl,by rw[zaG];exact h4,h5⟩
theorem zqN {n:Nat}(h:IRow L v1 V)(hn:L.length=n)(ho:o.op= .call { callee:= .builtin .len,args:= #[.tmp t1],argTypes:= #[36] }) (hv:a.tmps.getD t1 undef=v1):(execOp a.eval o).run Tryz.prog V= .ok (.value (.int .i64 ((n:Nat):Int))) V:=by
 obtain⟨A,c,rfl,-⟩:=h
 subst hn
 exact zgT ho hv
theorem zmZ {p:Addr}(hc:V.cell? p=some (.int .i64 z))(ho:o.op= .load 3 (.tmp t1)) (h1:a.tmps.getD t1 undef= .pointer (some p)):(execOp a.eval o).run Tryz.prog V= .ok (.value (.int .i64 z)) V:=by
 rw[zaf]at h1
 obtain⟨dst,op,ty,pos,after,guard⟩:=o
 simp only at ho
 subst ho
 go_simp
end
section
variable {V:World}{v:Value}{ps:List PEl}{p0 p1 p2:PEl}{K:Nat}
theorem GP.oks (h:GP ps v V):∀p∈ps,okP V p:=by
 obtain⟨A,c,-,hR,-⟩:=h
 exact fun p hp=>hR.mem hp
theorem ztJ:zck [p0,p1,p2]=[zag (cz (pv p2) (pv p0) (pv p1)) 0,zag (cz (pv p0) (pv p1) (pv p2)) 0,zag (cz (pv p1) (pv p2) (pv p0)) 0]:=by
 unfold zck
 rw[show zcV [p0,p1,p2]=3 by simp[zcV]]
 simp[zbH,czC,el,List.range_succ]
theorem zoz {a:Act}{o:Oper}{t1 t2 t3:Tmp}{v1 v2 v3:Value}{q1 q1' q2 q2' q3 q3':Rat}(hop:o.op= .buildSlice 30 3 #[(0,.tmp t1),(1,.tmp t2),(2,.tmp t3)]) (h1:a.tmps.getD t1 undef=v1) (h2:a.tmps.getD t2 undef=v2) (h3:a.tmps.getD t3 undef=v3) (r1:P1 K q1 q1' v1 V) (r2:P1 K q2 q2' v2 V) (r3:P1 K q3 q3' v3 V):
  zfI o a V (PRow K [(q1,q1'),(q2,q2'),(q3,q3')]):=by
 obtain⟨b0,x0,y0,d0,z0,w0,rfl,e0,e0',k0,k0',⟨o1,o2⟩,o3,o4⟩:=r1
 obtain⟨b1,x1,y1,d1,z1,w1,rfl,e1,e1',k1,k1',⟨p1,p2⟩,p3,p4⟩:=r2
 obtain⟨b2,x2,y2,d2,z2,w2,rfl,e2,e2',k2,k2',⟨s1,s2⟩,s3,s4⟩:=r3
 obtain⟨v,V',h4,h5,h6⟩:=zeD (V:=V) hop h1 h2 h3 o1 o2 o3 o4 p1 p2 p3 p4 s1 s2 s3 s4
 refine⟨v,V',h4,h5.row (fun p hp=>?_) (by simp) (by simp[pv,e0,e0',e1,e1',e2,e2']),h6⟩
 simp only[List.mem_cons,List.not_mem_nil,or_false]at hp
 rcases hp with rfl|rfl|rfl
 ·exact⟨k0,k0'⟩
 ·exact⟨k1,k1'⟩
 ·exact⟨k2,k2'⟩
theorem zqO {l:List PEl}(h:l.length=3):∃p0 p1 p2,l=[p0,p1,p2]:=by
 rcases l with _|⟨p0,_|⟨p1,_|⟨p2,_|⟨p3,l⟩⟩⟩⟩
 ·simp at h
 ·simp at h
 ·simp at h
 ·exact⟨_,_,_,rfl⟩
 ·simp at h
theorem zsa (T:TT V)(h:PRow 2 [(((0:Int):Rat),((0:Int):Rat)),(((2:Int):Rat),((0:Int):Rat)),(((1:Int):Rat),((1:Int):Rat))] v V):Calls Tryz.prog 13 #[v] V (zaj V (IRow [1,1,1])):=by
 obtain⟨A,c,l,rfl,hR,hq,hK,hl,-⟩:=h
 have h1:=callsIn_wide.1 (zm2 (c:=c) T hR hl hK (by decide) (zoy (fun p hp=>hR.mem hp) hK (by decide)))
 have e:zck l=[1,1,1]:=by
  obtain⟨p0,p1,p2,rfl⟩:=zqO (show l.length=3 by simpa using congrArg List.length hq)
  simp only[List.map_cons,List.map_nil,List.cons.injEq,and_true]at hq
  obtain⟨e0,e1,e2⟩:=hq
  rw[ztJ,e0,e1,e2]
  decide+kernel
 rw[e]at h1
 exact h1
end
theorem zfK {V:World}(T:TT V):
  Calls Tryz.prog 9 #[] V (zaj V (fun v _=>v= .bool true)):=by
 refine fb Tryz.func9 Tryz.ntmps9 zaC (fun a S=>?_)
 refine wsp fun K1 hK1=>?_
 refine ac S fun a S=>?_
 refine hK1 _ _ ?_
 refine wsp fun K2 hK2=>?_
 refine tc S (F:=PT 2 (((0:Int):Rat)) (((0:Int):Rat))) (zlZ Tryz.func34) (zmo (n:=0) (m:=0) (by decide)) fun v a V1 hF hb S=>?_
 obtain⟨b1,x1,y1,b2,x2,y2,rfl,hq1,hq2,⟨hk1,hk2⟩,⟨hk3,hk4⟩,⟨ok1,ok2⟩,ok3,ok4⟩:=hF
 have S:=S.know ok1
 have S:=S.know ok2
 have S:=S.know ok3
 have S:=S.know ok4
 refine tc S (F:=PT 2 (((2:Int):Rat)) (((0:Int):Rat))) (zlZ Tryz.func34) (zmo (n:=2) (m:=0) (by decide)) fun v a V2 hF hb S=>?_
 obtain⟨b3,x3,y3,b4,x4,y4,rfl,hq3,hq4,⟨hk5,hk6⟩,⟨hk7,hk8⟩,⟨ok5,ok6⟩,ok7,ok8⟩:=hF
 have S:=S.know ok5
 have S:=S.know ok6
 have S:=S.know ok7
 have S:=S.know ok8
 refine ti S (cs:=lY) (zay rfl (Tryz.zeroValue29 _) rfl) (fun g1=>[⟨g1,29,lY⟩]) fun g1 a V3 hgg1 S=>?_
 refine ti S (cs:=lY) (zay rfl (Tryz.zeroValue29 _) rfl) (fun g2=>[⟨g1,29,lY⟩,⟨g2,29,lY⟩]) fun g2 a V4 hgg2 S=>?_
 refine zaB S (i:=0) (vs:=(lP b1 x1 y1 b2 x2 y2)) rfl (fun ht=>zaw rfl (S.at 1 rfl) (S.at 3 rfl) zba rfl (zu0 rfl) ht) (zu0 rfl) rfl rfl rfl (lb':=[⟨g1,29,(lP b1 x1 y1 b2 x2 y2)⟩,⟨g2,29,lY⟩]) rfl (fun V5 S=>?_)
 refine zaB S (i:=1) (vs:=(lP b3 x3 y3 b4 x4 y4)) rfl (fun ht=>zaw rfl (S.at 0 rfl) (S.at 2 rfl) zba rfl (zu0 rfl) ht) (zu0 rfl) rfl rfl rfl (lb':=[⟨g1,29,(lP b1 x1 y1 b2 x2 y2)⟩,⟨g2,29,(lP b3 x3 y3 b4 x4 y4)⟩]) rfl (fun V6 S=>?_)
 refine hK2 _ _ ?_
 refine wp_seq_k fun K3 hK3=>?_
 obtain⟨W1,hW1⟩:∃W,W=V6:=⟨_,rfl⟩
 rw[←hW1]at S ⊢
 have S0:=S
 refine fr 5 [6,7,8,9,10] [IsV ((aP b1 x1 y1 b2 x2 y2)),IsV ((aP b3 x3 y3 b4 x4 y4)),PT 2 (((1:Int):Rat)) (((1:Int):Rat)),PRow 2 ([(((0:Int):Rat),((0:Int):Rat)),(((2:Int):Rat),((0:Int):Rat)),(((1:Int):Rat),((1:Int):Rat))]),IRow ([1,1,1])] S ?_ ?_
 ·refine sc (fun _ _ S _ _=>sv rfl (zak rfl (S.at 1 rfl) (S.bx 0 rfl) Tryz.underlying29 rfl (vs:=(lP b1 x1 y1 b2 x2 y2)) zba rfl)) ?_
  refine sc (fun _ _ S _ _=>sv rfl (zak rfl (S.at 0 rfl) (S.bx 1 rfl) Tryz.underlying29 rfl (vs:=(lP b3 x3 y3 b4 x4 y4)) zba rfl)) ?_
  refine sc (fun _ _ _ _ _=>sl rfl (zlZ Tryz.func34) (zmo (n:=1) (m:=1) (by decide))) ?_
  refine sc (fun _ _ S _ hd=>sy rfl (zoz rfl (hd.v 0 rfl rfl) (hd.v 1 rfl rfl) rfl (show PT 2 (((0:Int):Rat)) (((0:Int):Rat)) ((aP b1 x1 y1 b2 x2 y2)) _ from⟨b1,x1,y1,b2,x2,y2,rfl,hq1,hq2,⟨hk1,hk2⟩,⟨hk3,hk4⟩,⟨(S.num 7 rfl),(S.num 6 rfl)⟩,(S.num 5 rfl),(S.num 4 rfl)⟩).any (show PT 2 (((2:Int):Rat)) (((0:Int):Rat)) ((aP b3 x3 y3 b4 x4 y4)) _ from⟨b3,x3,y3,b4,x4,y4,rfl,hq3,hq4,⟨hk5,hk6⟩,⟨hk7,hk8⟩,⟨(S.num 3 rfl),(S.num 2 rfl)⟩,(S.num 1 rfl),(S.num 0 rfl)⟩).any ((hd.r 2 rfl rfl)).any)) ?_
  refine sc (fun _ _ S _ hd=>sl rfl (rc1 Tryz.func13 rfl) (zsa (T.keep S.below) (hd.r 3 rfl rfl))) ?_
  exact sn
 ·intro a1 V7 S hB hf
  obtain⟨ov1,hov1⟩:∃z,a1.tmps.getD 10 undef=z:=⟨_,rfl⟩
  have rov1:IRow ([1,1,1]) ov1 V7:=by rw[←hov1];exact hf.r 4 rfl rfl
  have S:=S.add hov1
  clear hf S0
  show wpList _ _ _ [_] _ _
  refine tv S (zac rfl (S.at 0 rfl)) fun a S=>?_
  refine hK3 _ _ ?_
  refine wp_seq_k fun K4 hK4=>?_
  have S:=S.keep [3,2,1,0] (ls':=[(3,ov1),(2,pT g2 0),(1,pT g1 0),(0,.bool false)]) rfl
  obtain⟨W2,hW2⟩:∃W,W=V7:=⟨_,rfl⟩
  rw[←hW2]at S ⊢
  have S0:=S
  rw[←hW2]at rov1
  refine fr 54 [11,12,13,14,15,16,17,18,19,20,21,22,23,24,25,26,27,28,29,30,31,32,33,34,35,36,37,38,39,40,41,42,43,44,45,46,47,48,49,50,51,52,53,54,55,56,57,58,59,60,61,62,63,64] [IsV ((aP b1 x1 y1 b2 x2 y2)),IsV ((aP b3 x3 y3 b4 x4 y4)),PT 2 (((1:Int):Rat)) (((1:Int):Rat)),IsV (.int .i64 (zag (crs ((0:Int):Rat) ((0:Int):Rat) ((2:Int):Rat) ((0:Int):Rat) ((1:Int):Rat) ((1:Int):Rat)) 0)),IsV (.bool true),IsV (.bool true),IsV ((aP b1 x1 y1 b2 x2 y2)),IsV ((aP b3 x3 y3 b4 x4 y4)),PT 2 (((1:Int):Rat)) (((-1:Int):Rat)),IsV (.int .i64 (zag (crs ((0:Int):Rat) ((0:Int):Rat) ((2:Int):Rat) ((0:Int):Rat) ((1:Int):Rat) ((-1:Int):Rat)) 0)),IsV (.bool true),IsV (.bool true),IsV (.bool true),IsV ((aP b1 x1 y1 b2 x2 y2)),IsV ((aP b3 x3 y3 b4 x4 y4)),PT 2 (((1:Int):Rat)) (((0:Int):Rat)),IsV (.bool true),IsV (.bool true),IsV (.bool true),IsV ((aP b1 x1 y1 b2 x2 y2)),IsV ((aP b3 x3 y3 b4 x4 y4)),IsV ((aP b3 x3 y3 b4 x4 y4)),IsV (.bool false),IsV (.bool true),IsV (.bool true),IsV (.bool true),IsV ((aP b1 x1 y1 b2 x2 y2)),IsV ((aP b3 x3 y3 b4 x4 y4)),IsV ((aP b3 x3 y3 b4 x4 y4)),IsV (.bool true),IsV (.bool true),IsV (.bool true),IsV ((aP b1 x1 y1 b2 x2 y2)),IsV ((aP b3 x3 y3 b4 x4 y4)),PT 2 (((5:Int):Rat)) (((0:Int):Rat)),IsV (.bool true),IsV (.bool true),IsV (.bool true),IsV (ov1),IsV (.int .i64 (((3:Nat):Int))),IsV (.bool true),IsV (.bool true),IsV (.bool true),IsV (ov1),IEl (1),IsV (.int .i64 1),IsV (.bool true),IsV (.bool true),IsV (.bool true),IsV (ov1),IEl (1),IsV (.int .i64 1),IsV (.bool true),IsV (.bool true)] S ?_ ?_
  ·refine sc (fun _ _ S _ _=>sv rfl (zak rfl (S.at 2 rfl) (S.bx 0 rfl) Tryz.underlying29 rfl (vs:=(lP b1 x1 y1 b2 x2 y2)) zba rfl)) ?_
   refine sc (fun _ _ S _ _=>sv rfl (zak rfl (S.at 1 rfl) (S.bx 1 rfl) Tryz.underlying29 rfl (vs:=(lP b3 x3 y3 b4 x4 y4)) zba rfl)) ?_
   refine sc (fun _ _ _ _ _=>sl rfl (zlZ Tryz.func34) (zmo (n:=1) (m:=1) (by decide))) ?_
   refine sc (fun _ _ S _ hd=>sl rfl (rc3 Tryz.func10 (hd.v 0 rfl rfl) (hd.v 1 rfl rfl) rfl) (zdG (T.keep S.below) (show PT 2 (((0:Int):Rat)) (((0:Int):Rat)) ((aP b1 x1 y1 b2 x2 y2)) _ from⟨b1,x1,y1,b2,x2,y2,rfl,hq1,hq2,⟨hk1,hk2⟩,⟨hk3,hk4⟩,⟨(S.num 7 rfl),(S.num 6 rfl)⟩,(S.num 5 rfl),(S.num 4 rfl)⟩).any (show PT 2 (((2:Int):Rat)) (((0:Int):Rat)) ((aP b3 x3 y3 b4 x4 y4)) _ from⟨b3,x3,y3,b4,x4,y4,rfl,hq3,hq4,⟨hk5,hk6⟩,⟨hk7,hk8⟩,⟨(S.num 3 rfl),(S.num 2 rfl)⟩,(S.num 1 rfl),(S.num 0 rfl)⟩).any ((hd.r 2 rfl rfl)).any (by omega) (by omega) (by omega) ⟨by decide+kernel,by decide+kernel⟩ ⟨by decide+kernel,by decide+kernel⟩ ⟨by decide+kernel,by decide+kernel⟩ ⟨by decide+kernel,by decide+kernel⟩)) ?_
   refine sc (fun _ _ _ _ hd=>sv rfl (zaN (zbG _ (by decide) rfl (hd.v 3 rfl rfl) rfl) (show(decide (zag (crs ((0:Int):Rat) ((0:Int):Rat) ((2:Int):Rat) ((0:Int):Rat) ((1:Int):Rat) ((1:Int):Rat)) 0=1))=true from(by decide+kernel)))) ?_
   refine sc (fun _ _ _ _ hd=>sv rfl (zab rfl (hd.v 4 rfl rfl))) ?_
   refine sc (fun _ _ S _ hd=>svg rfl (hd.v 5 rfl rfl) (zak rfl (S.at 2 rfl) (S.bx 0 rfl) Tryz.underlying29 rfl (vs:=(lP b1 x1 y1 b2 x2 y2)) zba rfl)) ?_
   refine sc (fun _ _ S _ hd=>svg rfl (hd.v 5 rfl rfl) (zak rfl (S.at 1 rfl) (S.bx 1 rfl) Tryz.underlying29 rfl (vs:=(lP b3 x3 y3 b4 x4 y4)) zba rfl)) ?_
   refine sc (fun _ _ _ _ hd=>slg rfl (hd.v 5 rfl rfl) (zlZ Tryz.func34) (zmo (n:=1) (m:= -1) (by decide))) ?_
   refine sc (fun _ _ S _ hd=>slg rfl (hd.v 5 rfl rfl) (rc3 Tryz.func10 (hd.v 6 rfl rfl) (hd.v 7 rfl rfl) rfl) (zdG (T.keep S.below) (show PT 2 (((0:Int):Rat)) (((0:Int):Rat)) ((aP b1 x1 y1 b2 x2 y2)) _ from⟨b1,x1,y1,b2,x2,y2,rfl,hq1,hq2,⟨hk1,hk2⟩,⟨hk3,hk4⟩,⟨(S.num 7 rfl),(S.num 6 rfl)⟩,(S.num 5 rfl),(S.num 4 rfl)⟩).any (show PT 2 (((2:Int):Rat)) (((0:Int):Rat)) ((aP b3 x3 y3 b4 x4 y4)) _ from⟨b3,x3,y3,b4,x4,y4,rfl,hq3,hq4,⟨hk5,hk6⟩,⟨hk7,hk8⟩,⟨(S.num 3 rfl),(S.num 2 rfl)⟩,(S.num 1 rfl),(S.num 0 rfl)⟩).any ((hd.r 8 rfl rfl)).any (by omega) (by omega) (by omega) ⟨by decide+kernel,by decide+kernel⟩ ⟨by decide+kernel,by decide+kernel⟩ ⟨by decide+kernel,by decide+kernel⟩ ⟨by decide+kernel,by decide+kernel⟩)) ?_
   refine sc (fun _ _ _ _ hd=>svg rfl (hd.v 5 rfl rfl) (zaN (zbG _ (by decide) rfl (hd.v 9 rfl rfl) rfl) (show(decide (zag (crs ((0:Int):Rat) ((0:Int):Rat) ((2:Int):Rat) ((0:Int):Rat) ((1:Int):Rat) ((-1:Int):Rat)) 0= -1))=true from(by decide+kernel)))) ?_
   refine sc (fun _ _ _ _ hd=>sv rfl (zap true rfl (hd.v 5 rfl rfl) (hd.v 10 rfl rfl))) ?_
   refine sc (fun _ _ _ _ hd=>sv rfl (zab rfl (hd.v 11 rfl rfl))) ?_
   refine sc (fun _ _ S _ hd=>svg rfl (hd.v 12 rfl rfl) (zak rfl (S.at 2 rfl) (S.bx 0 rfl) Tryz.underlying29 rfl (vs:=(lP b1 x1 y1 b2 x2 y2)) zba rfl)) ?_
   refine sc (fun _ _ S _ hd=>svg rfl (hd.v 12 rfl rfl) (zak rfl (S.at 1 rfl) (S.bx 1 rfl) Tryz.underlying29 rfl (vs:=(lP b3 x3 y3 b4 x4 y4)) zba rfl)) ?_
   refine sc (fun _ _ _ _ hd=>slg rfl (hd.v 12 rfl rfl) (zlZ Tryz.func34) (zmo (n:=1) (m:=0) (by decide))) ?_
   refine sc (fun _ _ S _ hd=>slg rfl (hd.v 12 rfl rfl) (rc3 Tryz.func17 (hd.v 13 rfl rfl) (hd.v 14 rfl rfl) rfl) (zbA (zhz (T.keep S.below) (show PT 2 (((0:Int):Rat)) (((0:Int):Rat)) ((aP b1 x1 y1 b2 x2 y2)) _ from⟨b1,x1,y1,b2,x2,y2,rfl,hq1,hq2,⟨hk1,hk2⟩,⟨hk3,hk4⟩,⟨(S.num 7 rfl),(S.num 6 rfl)⟩,(S.num 5 rfl),(S.num 4 rfl)⟩).any (show PT 2 (((2:Int):Rat)) (((0:Int):Rat)) ((aP b3 x3 y3 b4 x4 y4)) _ from⟨b3,x3,y3,b4,x4,y4,rfl,hq3,hq4,⟨hk5,hk6⟩,⟨hk7,hk8⟩,⟨(S.num 3 rfl),(S.num 2 rfl)⟩,(S.num 1 rfl),(S.num 0 rfl)⟩).any ((hd.r 15 rfl rfl)).any (by omega) (by omega) (by omega) ⟨by decide+kernel,by decide+kernel⟩ ⟨by decide+kernel,by decide+kernel⟩ ⟨by decide+kernel,by decide+kernel⟩ ⟨by decide+kernel,by decide+kernel⟩) (fun _ _ h=>h.trans (congrArg Value.bool (show(zbO ((0:Int):Rat) ((0:Int):Rat) ((2:Int):Rat) ((0:Int):Rat) ((1:Int):Rat) ((0:Int):Rat))=true from(by decide+kernel)))))) ?_
   refine sc (fun _ _ _ _ hd=>sv rfl (zap true rfl (hd.v 12 rfl rfl) (hd.v 16 rfl rfl))) ?_
   refine sc (fun _ _ _ _ hd=>sv rfl (zab rfl (hd.v 17 rfl rfl))) ?_
   refine sc (fun _ _ S _ hd=>svg rfl (hd.v 18 rfl rfl) (zak rfl (S.at 2 rfl) (S.bx 0 rfl) Tryz.underlying29 rfl (vs:=(lP b1 x1 y1 b2 x2 y2)) zba rfl)) ?_
   refine sc (fun _ _ S _ hd=>svg rfl (hd.v 18 rfl rfl) (zak rfl (S.at 1 rfl) (S.bx 1 rfl) Tryz.underlying29 rfl (vs:=(lP b3 x3 y3 b4 x4 y4)) zba rfl)) ?_
   refine sc (fun _ _ S _ hd=>svg rfl (hd.v 18 rfl rfl) (zak rfl (S.at 1 rfl) (S.bx 1 rfl) Tryz.underlying29 rfl (vs:=(lP b3 x3 y3 b4 x4 y4)) zba rfl)) ?_
   refine sc (fun _ _ S _ hd=>slg rfl (hd.v 18 rfl rfl) (rc3 Tryz.func17 (hd.v 19 rfl rfl) (hd.v 20 rfl rfl) (hd.v 21 rfl rfl)) (zbA (zhz (T.keep S.below) (show PT 2 (((0:Int):Rat)) (((0:Int):Rat)) ((aP b1 x1 y1 b2 x2 y2)) _ from⟨b1,x1,y1,b2,x2,y2,rfl,hq1,hq2,⟨hk1,hk2⟩,⟨hk3,hk4⟩,⟨(S.num 7 rfl),(S.num 6 rfl)⟩,(S.num 5 rfl),(S.num 4 rfl)⟩).any (show PT 2 (((2:Int):Rat)) (((0:Int):Rat)) ((aP b3 x3 y3 b4 x4 y4)) _ from⟨b3,x3,y3,b4,x4,y4,rfl,hq3,hq4,⟨hk5,hk6⟩,⟨hk7,hk8⟩,⟨(S.num 3 rfl),(S.num 2 rfl)⟩,(S.num 1 rfl),(S.num 0 rfl)⟩).any (show PT 2 (((2:Int):Rat)) (((0:Int):Rat)) ((aP b3 x3 y3 b4 x4 y4)) _ from⟨b3,x3,y3,b4,x4,y4,rfl,hq3,hq4,⟨hk5,hk6⟩,⟨hk7,hk8⟩,⟨(S.num 3 rfl),(S.num 2 rfl)⟩,(S.num 1 rfl),(S.num 0 rfl)⟩).any (by omega) (by omega) (by omega) ⟨by decide+kernel,by decide+kernel⟩ ⟨by decide+kernel,by decide+kernel⟩ ⟨by decide+kernel,by decide+kernel⟩ ⟨by decide+kernel,by decide+kernel⟩) (fun _ _ h=>h.trans (congrArg Value.bool (show(zbO ((0:Int):Rat) ((0:Int):Rat) ((2:Int):Rat) ((0:Int):Rat) ((2:Int):Rat) ((0:Int):Rat))=false from(by decide+kernel)))))) ?_
   refine sc (fun _ _ _ _ hd=>svg rfl (hd.v 18 rfl rfl) (zcz (b:=false) rfl (hd.v 22 rfl rfl))) ?_
   refine sc (fun _ _ _ _ hd=>sv rfl (zap true rfl (hd.v 18 rfl rfl) (hd.v 23 rfl rfl))) ?_
   refine sc (fun _ _ _ _ hd=>sv rfl (zab rfl (hd.v 24 rfl rfl))) ?_
   refine sc (fun _ _ S _ hd=>svg rfl (hd.v 25 rfl rfl) (zak rfl (S.at 2 rfl) (S.bx 0 rfl) Tryz.underlying29 rfl (vs:=(lP b1 x1 y1 b2 x2 y2)) zba rfl)) ?_
   refine sc (fun _ _ S _ hd=>svg rfl (hd.v 25 rfl rfl) (zak rfl (S.at 1 rfl) (S.bx 1 rfl) Tryz.underlying29 rfl (vs:=(lP b3 x3 y3 b4 x4 y4)) zba rfl)) ?_
   refine sc (fun _ _ S _ hd=>svg rfl (hd.v 25 rfl rfl) (zak rfl (S.at 1 rfl) (S.bx 1 rfl) Tryz.underlying29 rfl (vs:=(lP b3 x3 y3 b4 x4 y4)) zba rfl)) ?_
   refine sc (fun _ _ S _ hd=>slg rfl (hd.v 25 rfl rfl) (rc3 Tryz.func15 (hd.v 26 rfl rfl) (hd.v 27 rfl rfl) (hd.v 28 rfl rfl)) (zbA (zuy (T.keep S.below) (show PT 2 (((0:Int):Rat)) (((0:Int):Rat)) ((aP b1 x1 y1 b2 x2 y2)) _ from⟨b1,x1,y1,b2,x2,y2,rfl,hq1,hq2,⟨hk1,hk2⟩,⟨hk3,hk4⟩,⟨(S.num 7 rfl),(S.num 6 rfl)⟩,(S.num 5 rfl),(S.num 4 rfl)⟩).any (show PT 2 (((2:Int):Rat)) (((0:Int):Rat)) ((aP b3 x3 y3 b4 x4 y4)) _ from⟨b3,x3,y3,b4,x4,y4,rfl,hq3,hq4,⟨hk5,hk6⟩,⟨hk7,hk8⟩,⟨(S.num 3 rfl),(S.num 2 rfl)⟩,(S.num 1 rfl),(S.num 0 rfl)⟩).any (show PT 2 (((2:Int):Rat)) (((0:Int):Rat)) ((aP b3 x3 y3 b4 x4 y4)) _ from⟨b3,x3,y3,b4,x4,y4,rfl,hq3,hq4,⟨hk5,hk6⟩,⟨hk7,hk8⟩,⟨(S.num 3 rfl),(S.num 2 rfl)⟩,(S.num 1 rfl),(S.num 0 rfl)⟩).any (by omega) (by omega) (by omega) ⟨by decide+kernel,by decide+kernel⟩ ⟨by decide+kernel,by decide+kernel⟩ ⟨by decide+kernel,by decide+kernel⟩ ⟨by decide+kernel,by decide+kernel⟩) (fun _ _ h=>h.trans (congrArg Value.bool (show(onR ((0:Int):Rat) ((0:Int):Rat) ((2:Int):Rat) ((0:Int):Rat) ((2:Int):Rat) ((0:Int):Rat))=true from(by decide+kernel)))))) ?_
   refine sc (fun _ _ _ _ hd=>sv rfl (zap true rfl (hd.v 25 rfl rfl) (hd.v 29 rfl rfl))) ?_
   refine sc (fun _ _ _ _ hd=>sv rfl (zab rfl (hd.v 30 rfl rfl))) ?_
   refine sc (fun _ _ S _ hd=>svg rfl (hd.v 31 rfl rfl) (zak rfl (S.at 2 rfl) (S.bx 0 rfl) Tryz.underlying29 rfl (vs:=(lP b1 x1 y1 b2 x2 y2)) zba rfl)) ?_
   refine sc (fun _ _ S _ hd=>svg rfl (hd.v 31 rfl rfl) (zak rfl (S.at 1 rfl) (S.bx 1 rfl) Tryz.underlying29 rfl (vs:=(lP b3 x3 y3 b4 x4 y4)) zba rfl)) ?_
   refine sc (fun _ _ _ _ hd=>slg rfl (hd.v 31 rfl rfl) (zlZ Tryz.func34) (zmo (n:=5) (m:=0) (by decide))) ?_
   refine sc (fun _ _ S _ hd=>slg rfl (hd.v 31 rfl rfl) (rc3 Tryz.func19 (hd.v 32 rfl rfl) (hd.v 33 rfl rfl) rfl) (zbA (zfl (T.keep S.below) (show PT 2 (((0:Int):Rat)) (((0:Int):Rat)) ((aP b1 x1 y1 b2 x2 y2)) _ from⟨b1,x1,y1,b2,x2,y2,rfl,hq1,hq2,⟨hk1,hk2⟩,⟨hk3,hk4⟩,⟨(S.num 7 rfl),(S.num 6 rfl)⟩,(S.num 5 rfl),(S.num 4 rfl)⟩).any (show PT 2 (((2:Int):Rat)) (((0:Int):Rat)) ((aP b3 x3 y3 b4 x4 y4)) _ from⟨b3,x3,y3,b4,x4,y4,rfl,hq3,hq4,⟨hk5,hk6⟩,⟨hk7,hk8⟩,⟨(S.num 3 rfl),(S.num 2 rfl)⟩,(S.num 1 rfl),(S.num 0 rfl)⟩).any ((hd.r 34 rfl rfl)).any (by omega) (by omega) (by omega) ⟨by decide+kernel,by decide+kernel⟩ ⟨by decide+kernel,by decide+kernel⟩ ⟨by decide+kernel,by decide+kernel⟩ ⟨by decide+kernel,by decide+kernel⟩) (fun _ _ h=>h.trans (congrArg Value.bool (show(za3 ((0:Int):Rat) ((0:Int):Rat) ((2:Int):Rat) ((0:Int):Rat) ((5:Int):Rat) ((0:Int):Rat))=true from(by decide+kernel)))))) ?_
   refine sc (fun _ _ _ _ hd=>sv rfl (zap true rfl (hd.v 31 rfl rfl) (hd.v 35 rfl rfl))) ?_
   refine sc (fun _ _ _ _ hd=>sv rfl (zab rfl (hd.v 36 rfl rfl))) ?_
   refine sc (fun _ _ S _ hd=>svg rfl (hd.v 37 rfl rfl) (zab rfl (S.at 0 rfl))) ?_
   refine sc (fun _ _ _ hB hd=>svg rfl (hd.v 37 rfl rfl) (zqN (n:=3) (rov1.keep hB) rfl rfl (hd.v 38 rfl rfl))) ?_
   refine sc (fun _ _ _ _ hd=>svg rfl (hd.v 37 rfl rfl) (zaN (zbG _ (by decide) rfl (hd.v 39 rfl rfl) rfl) (show(decide (((3:Nat):Int)=3))=true from(by decide+kernel)))) ?_
   refine sc (fun _ _ _ _ hd=>sv rfl (zap true rfl (hd.v 37 rfl rfl) (hd.v 40 rfl rfl))) ?_
   refine sc (fun _ _ _ _ hd=>sv rfl (zab rfl (hd.v 41 rfl rfl))) ?_
   refine sc (fun _ _ S _ hd=>svg rfl (hd.v 42 rfl rfl) (zab rfl (S.at 0 rfl))) ?_
   refine sc (fun _ _ _ hB hd=>by
    obtain⟨A,ad,n,c,hv,hA,hk,hq⟩:=zuz (rov1.keep hB) (i:=0) (by decide)
    exact svg rfl (hd.v 42 rfl rfl) (zgS (k:=0) hA hk rfl ((hd.v 43 rfl rfl).trans hv) rfl) hq) ?_
   refine sc (fun _ _ _ _ hd=>by
    obtain⟨p,hv,-,hq⟩:=(hd.r 44 rfl rfl)
    exact svg rfl (hd.v 42 rfl rfl) (zmZ hq rfl hv)) ?_
   refine sc (fun _ _ _ _ hd=>svg rfl (hd.v 42 rfl rfl) (zaN (zbG _ (by decide) rfl (hd.v 45 rfl rfl) rfl) (show(decide (1=1))=true from(by decide+kernel)))) ?_
   refine sc (fun _ _ _ _ hd=>sv rfl (zap true rfl (hd.v 42 rfl rfl) (hd.v 46 rfl rfl))) ?_
   refine sc (fun _ _ _ _ hd=>sv rfl (zab rfl (hd.v 47 rfl rfl))) ?_
   refine sc (fun _ _ S _ hd=>svg rfl (hd.v 48 rfl rfl) (zab rfl (S.at 0 rfl))) ?_
   refine sc (fun _ _ _ hB hd=>by
    obtain⟨A,ad,n,c,hv,hA,hk,hq⟩:=zuz (rov1.keep hB) (i:=2) (by decide)
    exact svg rfl (hd.v 48 rfl rfl) (zgS (k:=2) hA hk rfl ((hd.v 49 rfl rfl).trans hv) rfl) hq) ?_
   refine sc (fun _ _ _ _ hd=>by
    obtain⟨p,hv,-,hq⟩:=(hd.r 50 rfl rfl)
    exact svg rfl (hd.v 48 rfl rfl) (zmZ hq rfl hv)) ?_
   refine sc (fun _ _ _ _ hd=>svg rfl (hd.v 48 rfl rfl) (zaN (zbG _ (by decide) rfl (hd.v 51 rfl rfl) rfl) (show(decide (1=1))=true from(by decide+kernel)))) ?_
   refine sc (fun _ _ _ _ hd=>sv rfl (zap true rfl (hd.v 48 rfl rfl) (hd.v 52 rfl rfl))) ?_
   exact sn
  ·intro a2 V8 S hB hf
   replace rov1:=rov1.keep hB
   have S:=S.add (hf.v 53 rfl rfl)
   clear hf S0
   show wpList _ _ _ [_] _ _
   refine zav S (v:= .bool true) (zac rfl (S.at 0 rfl)) rfl rfl (by decide) (ls':=[(64,.bool true),(3,ov1),(2,pT g2 0),(1,pT g1 0)]) rfl (fun a S=>?_)
   refine hK4 _ _ ?_
   refine wp_ret ?_
   exact zao rfl S (S.at 0 rfl) ⟨_,rfl,rfl,S.below⟩
section
variable {a a' b b' p p' d d' t:Rat}
theorem zqP {b0 d0 b1 d1 b2 d2:Bool}{x0 y0 z0 w0 x1 y1 z1 w1 x2 y2 z2 w2:Num}(h:zby [(b0,x0,y0,d0,z0,w0),(b1,x1,y1,d1,z1,w1),(b2,x2,y2,d2,z2,w2)]=false):x0.n+y0.n+z0.n+w0.n+(x1.n+y1.n+z1.n+w1.n)+(x2.n+y2.n+z2.n+w2.n)≤80:=by
 have:=(zcL h).2
 simp[szP]at this
 omega
end
section
variable {a:Act}{V:World}{o:Oper}{t1 t2 t3 t4:Tmp}{b0 d0 b1 d1 b2 d2 b3 d3:Bool}{x0 y0 z0 w0 x1 y1 z1 w1 x2 y2 z2 w2 x3 y3 z3 w3:Num}
end
end Go.Proofs.YtdeelcoipmdoiaaGreatDoor
