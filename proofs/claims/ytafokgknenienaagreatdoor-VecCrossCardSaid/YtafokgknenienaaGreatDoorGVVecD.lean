/- Contracts of the document's layer 8 but rows; the law package's wakes. -/
import Derived.Test.YtafokgknenienaaGreatDoorGVVecP
set_option maxHeartbeats 4000000
set_option maxRecDepth 100000
namespace Go.Proofs.YtafokgknenienaaGreatDoor
open Go Go.RowKit
theorem zsN {n m:Int} {V:World} (hn:(-9223372036854775808≤n∧n≤9223372036854775807)∧ -9223372036854775808≤m∧m≤9223372036854775807):
  Calls Tryz.prog 60 #[.int .i64 n,.int .i64 m] V (zal V (PT 2 ((n:Int):Rat) ((m:Int):Rat))):=by
 refine zar (e:=[]) Tryz.func60 rfl Tryz.ntmps60 (Nat.le_of_ble_eq_true rfl) [(0,.int .i64 n),(1,.int .i64 m)] rfl zaE (fun a S=>?_)
 refine wp_seq_k fun K1 hK1=>?_
 refine zac ?_
 refine ti S (cs:=[.bool false,.slice none 0 0,.slice none 0 0,.bool false,.slice none 0 0,.slice none 0 0]) (zau rfl (Tryz.zeroValue53 _) rfl) (fun g1=>[⟨g1,53,[.bool false,.slice none 0 0,.slice none 0 0,.bool false,.slice none 0 0,.slice none 0 0]⟩]) fun g1 a V1 hgg1 S=>?_
 refine hK1 _ _ ?_
 refine wp_seq_k fun K2 hK2=>?_
 refine zac ?_
 refine tv S (zad rfl (S.at 1 rfl)) fun a S=>?_
 refine tc S (F:=QT 2 ((n:Int))) (rc1 Tryz.func23 (S.at 0 rfl)) (zeq (n:=n) (by omega)) fun v a V2 hF hb S=>?_
 obtain ⟨b1,x1,y1,rfl,hq1,hk1,hk2,ok1,ok2⟩:=hF
 have S:=S.know ok1
 have S:=S.know ok2
 refine tv S (zad rfl (S.at 4 rfl)) fun a S=>?_
 refine tc S (F:=QT 2 ((m:Int))) (rc1 Tryz.func23 (S.at 0 rfl)) (zeq (n:=m) (by omega)) fun v a V3 hF hb S=>?_
 obtain ⟨b2,x2,y2,rfl,hq2,hk3,hk4,ok3,ok4⟩:=hF
 have S:=S.know ok3
 have S:=S.know ok4
 refine tv S (za6 rfl (S.at 2 rfl) (S.at 0 rfl) (zlD _ _ _ _ _ _ _ _ _ _ _ _ _ _)) fun a S=>?_
 refine zap S (i:=0) (vs:=(lP b1 x1 y1 b2 x2 y2)) rfl (fun ht=>zao rfl (S.at 5 rfl) (S.at 0 rfl) zak rfl (Nat.le_of_ble_eq_true rfl) ht) (Nat.le_of_ble_eq_true rfl) rfl rfl rfl (lb':=[⟨g1,53,(lP b1 x1 y1 b2 x2 y2)⟩]) rfl (fun V4 S=>?_)
 refine hK2 _ _ ?_
 refine wp_ret ?_
 exact zaC rfl S (S.at 5 rfl) (i:=0) rfl Tryz.underlying53 rfl zak ⟨_,rfl,((show PT 2 ((n:Int)) ((m:Int)) ((aP b1 x1 y1 b2 x2 y2)) _ from ⟨b1,x1,y1,b2,x2,y2,rfl,hq1,hq2,⟨hk1,hk2⟩,⟨hk3,hk4⟩,⟨(S.num 3 rfl),(S.num 2 rfl)⟩,(S.num 1 rfl),(S.num 0 rfl)⟩)).to rfl rfl (by omega),S.below⟩
theorem ziB {K K':Nat} {q q' r r':Rat} {v1 v2:Value} {V:World} (h1:PT K (q) (q') v1 V) (h2:PT K' (r) (r') v2 V) (e1:q=r) (e2:q'=r'):
  Calls Tryz.prog 48 #[v1,v2] V (zal V (fun v _=>v= .bool true)):=by
 obtain ⟨b1,x1,y1,b2,x2,y2,rfl,hq1,hq2,⟨hk1,hk2⟩,⟨hk3,hk4⟩,⟨ok1,ok2⟩,ok3,ok4⟩:=h1
 obtain ⟨b3,x3,y3,b4,x4,y4,rfl,hq3,hq4,⟨hk5,hk6⟩,⟨hk7,hk8⟩,⟨ok5,ok6⟩,ok7,ok8⟩:=h2
 refine zar (e:=[x3,y3,x4,y4,x1,y1,x2,y2]) Tryz.func48 rfl Tryz.ntmps48 (Nat.le_of_ble_eq_true rfl) [(0,(aP b1 x1 y1 b2 x2 y2)),(1,(aP b3 x3 y3 b4 x4 y4))] rfl (zaa ok5 (zaa ok6 (zaa ok7 (zaa ok8 (zaa ok1 (zaa ok2 (zaa ok3 (zaa ok4 zaE)))))))) (fun a S=>?_)
 refine wp_seq_k fun K1 hK1=>?_
 refine zac ?_
 refine ti S (cs:=(lP b1 x1 y1 b2 x2 y2)) (zas rfl (S.at 0 rfl) rfl) (fun g1=>[⟨g1,53,(lP b1 x1 y1 b2 x2 y2)⟩]) fun g1 a V1 hgg1 S=>?_
 refine ti S (cs:=(lP b3 x3 y3 b4 x4 y4)) (zas rfl (S.at 2 rfl) rfl) (fun g2=>[⟨g1,53,(lP b1 x1 y1 b2 x2 y2)⟩,⟨g2,53,(lP b3 x3 y3 b4 x4 y4)⟩]) fun g2 a V2 hgg2 S=>?_
 refine tv S (zaB rfl) fun a S=>?_
 refine hK1 _ _ ?_
 refine wp_seq_k fun K2 hK2=>?_
 refine zac ?_
 refine tv S (zae rfl (S.at 2 rfl) (zbh _)) fun a S=>?_
 refine tv S (zab rfl (S.at 0 rfl) (S.bx 0 rfl) Tryz.underlying27 rfl (vs:=(aL b1 x1 y1)) zah rfl) fun a S=>?_
 refine tv S (zae rfl (S.at 3 rfl) (zbh _)) fun a S=>?_
 refine tv S (zab rfl (S.at 0 rfl) (S.bx 1 rfl) Tryz.underlying27 rfl (vs:=(aL b3 x3 y3)) zah rfl) fun a S=>?_
 refine tc S (F:=(fun v _=>v= .bool true)) (rc2 Tryz.func61 (S.at 2 rfl) (S.at 0 rfl)) (zoE (show QT K (q) ((aG b1 x1 y1)) _ from ⟨b1,x1,y1,rfl,hq1,hk1,hk2,(S.num 4 rfl),(S.num 5 rfl)⟩) (show QT K' (r) ((aG b3 x3 y3)) _ from ⟨b3,x3,y3,rfl,hq3,hk5,hk6,(S.num 0 rfl),(S.num 1 rfl)⟩) e1) fun v a V3 hF hb S=>?_
 subst hF
 refine tv S (zad rfl (S.at 0 rfl)) fun a S=>?_
 refine tvg S (S.at 0 rfl) (zae rfl (S.at 8 rfl) (zbD _)) fun a S=>?_
 refine tvg S (S.at 1 rfl) (zab rfl (S.at 0 rfl) (S.bx 0 rfl) Tryz.underlying27 rfl (vs:=(aL b2 x2 y2)) zah rfl) fun a S=>?_
 refine tvg S (S.at 2 rfl) (zae rfl (S.at 9 rfl) (zbD _)) fun a S=>?_
 refine tvg S (S.at 3 rfl) (zab rfl (S.at 0 rfl) (S.bx 1 rfl) Tryz.underlying27 rfl (vs:=(aL b4 x4 y4)) zah rfl) fun a S=>?_
 refine tcg S (S.at 4 rfl) (F:=(fun v _=>v= .bool true)) (rc2 Tryz.func61 (S.at 2 rfl) (S.at 0 rfl)) (zoE (show QT K (q') ((aG b2 x2 y2)) _ from ⟨b2,x2,y2,rfl,hq2,hk3,hk4,(S.num 6 rfl),(S.num 7 rfl)⟩) (show QT K' (r') ((aG b4 x4 y4)) _ from ⟨b4,x4,y4,rfl,hq4,hk7,hk8,(S.num 2 rfl),(S.num 3 rfl)⟩) e2) fun v a V4 hF hb S=>?_
 subst hF
 refine tv S (zaq true rfl (S.at 5 rfl) (S.at 0 rfl)) fun a S=>?_
 refine zbe S (v:= .bool true) (zan rfl (S.at 0 rfl)) rfl rfl (by decide) (ls':=[(16,.bool true),(15,.bool true),(14,(aG b4 x4 y4)),(13,pT g2 3),(12,(aG b2 x2 y2)),(11,pT g1 3),(10,.bool true),(9,.bool true),(8,(aG b3 x3 y3)),(7,pT g2 0),(6,(aG b1 x1 y1)),(5,pT g1 0),(3,pT g2 0),(2,pT g1 0),(0,(aP b1 x1 y1 b2 x2 y2)),(1,(aP b3 x3 y3 b4 x4 y4))]) rfl (fun a S=>?_)
 refine hK2 _ _ ?_
 refine wp_ret ?_
 exact zaO rfl S (S.at 0 rfl) ⟨_,rfl,rfl,S.below⟩
theorem zb5 {V:World} (T:TT V):
  Calls Tryz.prog 47 #[] V (zal V (fun v _=>v= .bool true)):=by
 refine zar (e:=[]) Tryz.func47 rfl Tryz.ntmps47 (Nat.le_of_ble_eq_true rfl) [] rfl zaE (fun a S=>?_)
 refine wp_seq_k fun K1 hK1=>?_
 refine zac ?_
 refine tv S (zaB rfl) fun a S=>?_
 refine hK1 _ _ ?_
 refine wp_seq_k fun K2 hK2=>?_
 refine zac ?_
 refine tc S (F:=QT 2 ((0:Int))) (rcc Tryz.func23) (zeq (n:=0) (by decide)) fun v a V1 hF hb S=>?_
 obtain ⟨b1,x1,y1,rfl,hq1,hk1,hk2,ok1,ok2⟩:=hF
 have S:=S.know ok1
 have S:=S.know ok2
 refine tc S (F:=QT 2 ((1:Int))) (rcc Tryz.func23) (zeq (n:=1) (by decide)) fun v a V2 hF hb S=>?_
 obtain ⟨b2,x2,y2,rfl,hq2,hk3,hk4,ok3,ok4⟩:=hF
 have S:=S.know ok3
 have S:=S.know ok4
 refine tc S (F:=QT 6 (((0:Int)+(1:Int))/2)) (rc2 Tryz.func37 (S.at 1 rfl) (S.at 0 rfl)) (zsc (show QT 2 ((0:Int)) ((aG b1 x1 y1)) _ from ⟨b1,x1,y1,rfl,hq1,hk1,hk2,(S.num 3 rfl),(S.num 2 rfl)⟩).any (show QT 2 ((1:Int)) ((aG b2 x2 y2)) _ from ⟨b2,x2,y2,rfl,hq2,hk3,hk4,(S.num 1 rfl),(S.num 0 rfl)⟩).any (by decide) (by decide)) fun v a V3 hF hb S=>?_
 obtain ⟨b3,x3,y3,rfl,hq3,hk5,hk6,ok5,ok6⟩:=hF
 have S:=S.know ok5
 have S:=S.know ok6
 refine ti S (cs:=[.bool false,.slice none 0 0,.slice none 0 0]) (zau rfl (Tryz.zeroValue27 _) rfl) (fun g1=>[⟨g1,27,[.bool false,.slice none 0 0,.slice none 0 0]⟩]) fun g1 a V4 hgg1 S=>?_
 refine zap S (i:=0) (vs:=(aL b3 x3 y3)) rfl (fun ht=>zao rfl (S.at 0 rfl) (S.at 1 rfl) zah rfl (Nat.le_of_ble_eq_true rfl) ht) (Nat.le_of_ble_eq_true rfl) rfl rfl rfl (lb':=[⟨g1,27,(aL b3 x3 y3)⟩]) rfl (fun V5 S=>?_)
 refine hK2 _ _ ?_
 refine wp_seq_k fun K3 hK3=>?_
 have S:=S.keep [1,0] (ls':=[(1,pT g1 0),(0,.bool false)]) rfl
 obtain ⟨W1,hW1⟩: ∃W,W=V5:=⟨_,rfl⟩
 rw [←hW1] at S ⊢
 have S0:=S
 refine fr 31 [5,6,7,8,9,10,11,12,13,14,15,16,17,18,19,20,21,22,23,24,25,26,27,28,29,30,31,32,33,34,35] [PT 2 (((1:Int):Rat)) (((0:Int):Rat)),PT 2 (((0:Int):Rat)) (((1:Int):Rat)),QT 9 (((1:Int):Rat)*((1:Int):Rat) - ((0:Int):Rat)*((0:Int):Rat)),QT 2 ((1:Int)),IsV (.bool true),IsV (.bool true),PT 2 (((1:Int):Rat)) (((2:Int):Rat)),PT 2 (((4:Int):Rat)) (((-2:Int):Rat)),QT 11 (zaA (((4:Int):Rat) - ((1:Int):Rat))+zaA (((-2:Int):Rat) - ((2:Int):Rat))),QT 2 ((7:Int)),IsV (.bool true),IsV (.bool true),IsV (.bool true),PT 2 (((0:Int):Rat)) (((0:Int):Rat)),PT 2 (((4:Int):Rat)) (((2:Int):Rat)),IsV ((aG b3 x3 y3)),PT 14 (((0:Int):Rat)+(((4:Int):Rat) - ((0:Int):Rat))*(((0:Int)+(1:Int))/2)) (((0:Int):Rat)+(((2:Int):Rat) - ((0:Int):Rat))*(((0:Int)+(1:Int))/2)),PT 2 (((2:Int):Rat)) (((1:Int):Rat)),IsV (.bool true),IsV (.bool true),IsV (.bool true),PT 2 (((2:Int):Rat)) (((1:Int):Rat)),PT 2 (((2:Int):Rat)) (((1:Int):Rat)),IsV (.bool true),IsV (.bool true),IsV (.bool true),PT 2 (((1:Int):Rat)) (((2:Int):Rat)),PT 2 (((1:Int):Rat)) (((3:Int):Rat)),IsV (.int .i64 (zaT ((1:Int):Rat) ((2:Int):Rat) ((1:Int):Rat) ((3:Int):Rat))),IsV (.bool true),IsV (.bool true)] S ?_ ?_
 ·refine sc (fun _ _ _ _ _=>sl rfl (zfT Tryz.func59) (vOf (n:=1) (m:=0) (by decide))) ?_
  refine sc (fun _ _ _ _ _=>sl rfl (zfT Tryz.func59) (vOf (n:=0) (m:=1) (by decide))) ?_
  refine sc (fun _ _ S _ hd=>sl rfl (rc2 Tryz.func62 rfl rfl) (zcK (T.keep S.below) ((hd.r 0 rfl rfl)).any ((hd.r 1 rfl rfl)).any (by omega) (by omega))) ?_
  refine sc (fun _ _ _ _ _=>sl rfl (rcc Tryz.func23) (zeq (n:=1) (by decide))) ?_
  refine sc (fun _ _ _ _ hd=>sl rfl (rc2 Tryz.func21 rfl rfl) (zbb (zcU ((hd.r 2 rfl rfl)).any ((hd.r 3 rfl rfl)).any (by decide) (by decide)) (fun _ _ h=>h.trans (congrArg Value.bool (show (decide (zay (((1:Int):Rat)*((1:Int):Rat) - ((0:Int):Rat)*((0:Int):Rat)) (1:Int)=0))=true from (by decide+kernel)))))) ?_
  refine sc (fun _ _ _ _ hd=>sv rfl (zad rfl (hd.v 4 rfl rfl))) ?_
  refine sc (fun _ _ _ _ hd=>slg rfl (hd.v 5 rfl rfl) (zfT Tryz.func59) (vOf (n:=1) (m:=2) (by decide))) ?_
  refine sc (fun _ _ _ _ hd=>slg rfl (hd.v 5 rfl rfl) (zfT Tryz.func59) (vOf (n:=4) (m:= -2) (by decide))) ?_
  refine sc (fun _ _ S _ hd=>slg rfl (hd.v 5 rfl rfl) (rc2 Tryz.func66 rfl rfl) (zg3 (T.keep S.below) ((hd.r 6 rfl rfl)).any ((hd.r 7 rfl rfl)).any (by omega) (by omega))) ?_
  refine sc (fun _ _ _ _ hd=>slg rfl (hd.v 5 rfl rfl) (rcc Tryz.func23) (zeq (n:=7) (by decide))) ?_
  refine sc (fun _ _ _ _ hd=>slg rfl (hd.v 5 rfl rfl) (rc2 Tryz.func21 rfl rfl) (zbb (zcU ((hd.r 8 rfl rfl)).any ((hd.r 9 rfl rfl)).any (by decide) (by decide)) (fun _ _ h=>h.trans (congrArg Value.bool (show (decide (zay (zaA (((4:Int):Rat) - ((1:Int):Rat))+zaA (((-2:Int):Rat) - ((2:Int):Rat))) (7:Int)=0))=true from (by decide+kernel)))))) ?_
  refine sc (fun _ _ _ _ hd=>sv rfl (zaq true rfl (hd.v 5 rfl rfl) (hd.v 10 rfl rfl))) ?_
  refine sc (fun _ _ _ _ hd=>sv rfl (zad rfl (hd.v 11 rfl rfl))) ?_
  refine sc (fun _ _ _ _ hd=>slg rfl (hd.v 12 rfl rfl) (zfT Tryz.func59) (vOf (n:=0) (m:=0) (by decide))) ?_
  refine sc (fun _ _ _ _ hd=>slg rfl (hd.v 12 rfl rfl) (zfT Tryz.func59) (vOf (n:=4) (m:=2) (by decide))) ?_
  refine sc (fun _ _ S _ hd=>svg rfl (hd.v 12 rfl rfl) (zab rfl (S.at 0 rfl) (S.bx 0 rfl) Tryz.underlying27 rfl (vs:=(aL b3 x3 y3)) zah rfl)) ?_
  refine sc (fun _ _ S _ hd=>slg rfl (hd.v 12 rfl rfl) (rc3 Tryz.func57 rfl rfl (hd.v 15 rfl rfl)) (vAt (T.keep S.below) ((hd.r 13 rfl rfl)).any ((hd.r 14 rfl rfl)).any (show QT 6 (((0:Int)+(1:Int))/2) ((aG b3 x3 y3)) _ from ⟨b3,x3,y3,rfl,hq3,hk5,hk6,(S.num 1 rfl),(S.num 0 rfl)⟩).any (by omega) (by omega) (by omega))) ?_
  refine sc (fun _ _ _ _ hd=>slg rfl (hd.v 12 rfl rfl) (zfT Tryz.func59) (vOf (n:=2) (m:=1) (by decide))) ?_
  refine sc (fun _ _ _ _ hd=>slg rfl (hd.v 12 rfl rfl) (rc2 Tryz.func48 rfl rfl) (ziB (hd.r 16 rfl rfl) (hd.r 17 rfl rfl) (by decide+kernel) (by decide+kernel))) ?_
  refine sc (fun _ _ _ _ hd=>sv rfl (zaq true rfl (hd.v 12 rfl rfl) (hd.v 18 rfl rfl))) ?_
  refine sc (fun _ _ _ _ hd=>sv rfl (zad rfl (hd.v 19 rfl rfl))) ?_
  refine sc (fun _ _ _ _ hd=>slg rfl (hd.v 20 rfl rfl) (zfT Tryz.func59) (vOf (n:=2) (m:=1) (by decide))) ?_
  refine sc (fun _ _ _ _ hd=>slg rfl (hd.v 20 rfl rfl) (zfT Tryz.func60) (zsN (n:=2) (m:=1) (by decide))) ?_
  refine sc (fun _ _ _ _ hd=>slg rfl (hd.v 20 rfl rfl) (rc2 Tryz.func48 rfl rfl) (ziB (hd.r 21 rfl rfl) (hd.r 22 rfl rfl) (by decide+kernel) (by decide+kernel))) ?_
  refine sc (fun _ _ _ _ hd=>sv rfl (zaq true rfl (hd.v 20 rfl rfl) (hd.v 23 rfl rfl))) ?_
  refine sc (fun _ _ _ _ hd=>sv rfl (zad rfl (hd.v 24 rfl rfl))) ?_
  refine sc (fun _ _ _ _ hd=>slg rfl (hd.v 25 rfl rfl) (zfT Tryz.func59) (vOf (n:=1) (m:=2) (by decide))) ?_
  refine sc (fun _ _ _ _ hd=>slg rfl (hd.v 25 rfl rfl) (zfT Tryz.func59) (vOf (n:=1) (m:=3) (by decide))) ?_
  refine sc (fun _ _ S _ hd=>slg rfl (hd.v 25 rfl rfl) (rc2 Tryz.func68 rfl rfl) (zjX (T.keep S.below) ((hd.r 26 rfl rfl)).any ((hd.r 27 rfl rfl)).any (by omega) (by omega))) ?_
  refine sc (fun _ _ _ _ hd=>svg rfl (hd.v 25 rfl rfl) (zaQ (zcc _ (by decide) rfl (hd.v 28 rfl rfl) rfl) (show (decide (zaT ((1:Int):Rat) ((2:Int):Rat) ((1:Int):Rat) ((3:Int):Rat)= -1))=true from (by decide+kernel)))) ?_
  refine sc (fun _ _ _ _ hd=>sv rfl (zaq true rfl (hd.v 25 rfl rfl) (hd.v 29 rfl rfl))) ?_
  exact sn
 ·intro a1 V6 S hB hf
  have S:=S.add (hf.v 30 rfl rfl)
  clear hf S0
  show wpList _ _ _ [_] _ _
  refine zbe S (v:= .bool true) (zan rfl (S.at 0 rfl)) rfl rfl (by decide) (ls':=[(35,.bool true),(1,pT g1 0)]) rfl (fun a S=>?_)
  refine hK3 _ _ ?_
  refine wp_ret ?_
  exact zaO rfl S (S.at 0 rfl) ⟨_,rfl,rfl,S.below⟩
end Go.Proofs.YtafokgknenienaaGreatDoor
