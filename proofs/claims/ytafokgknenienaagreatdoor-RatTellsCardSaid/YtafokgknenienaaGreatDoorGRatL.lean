/- A part. -/
import Derived.Test.YtafokgknenienaaGreatDoorGPOps
set_option maxHeartbeats 4000000
set_option maxRecDepth 100000
namespace Go.Proofs.YtafokgknenienaaGreatDoor
open Go Go.RowKit
section
variable {w W:World}{e:List Num}{x y x' y':Num}
theorem zrV {q:Rat}{b b':Bool}(h:Env w e W)(hx:x∈e)(hy:y∈e)(hx':x'∈e)(hy':y'∈e)(hq:IsQ q b x y)(hq':IsQ q b' x' y'):
  Calls Tryz.prog 15 #[.agg #[.bool b,.slice x.A x.n x.c,.slice y.A y.n y.c],.agg #[.bool b',.slice x'.A x'.n x'.c,.slice y'.A y'.n y'.c]] W fun e' W'=>e'= .returned (.bool true)∧Env w e W':=by
 have HE:=(h.alloc (.cells #[.bool b,.slice x.A x.n x.c,.slice y.A y.n y.c] 27)).alloc (.cells #[.bool b',.slice x'.A x'.n x'.c,.slice y'.A y'.n y'.c] 27)
 have B1:=(Box3.new W 27 (.bool b) (.slice x.A x.n x.c) (.slice y.A y.n y.c)).alloc (.cells #[.bool b',.slice x'.A x'.n x'.c,.slice y'.A y'.n y'.c] 27)
 have B2:=Box3.new (W.alloc (.cells #[.bool b,.slice x.A x.n x.c,.slice y.A y.n y.c] 27)) 27 (.bool b') (.slice x'.A x'.n x'.c) (.slice y'.A y'.n y'.c)
 rw[World.size_alloc]at B2
 have ES:=zuy (zkB HE hx hy hx' hy' hq hq')
 obtain⟨W2,hW2⟩:∃W2,(W.alloc (.cells #[.bool b,.slice x.A x.n x.c,.slice y.A y.n y.c] 27)).alloc (.cells #[.bool b',.slice x'.A x'.n x'.c,.slice y'.A y'.n y'.c] 27)=W2:=⟨_,rfl⟩
 rw[hW2]at B1 B2 ES
 obtain⟨c1,c2,c3,-,-,-⟩:=B1.cells
 obtain⟨d1,d2,d3,-,-,-⟩:=B2.cells
 clear HE B1 B2 h hq hq'
 go_enter Tryz.func15,Tryz.ntmps15
 go_wp2_with fail
 refine ES.out.mono ?_
 rintro e' W' ⟨rfl,hE⟩
 go_wp2
 go_ret
 exact⟨rfl,hE⟩
end
section
variable {v v' v1 v2 v3:Value}{V V':World}{K K' N M:Nat}{q q' q1 q2:Rat}{Z Z':Int}
theorem zqj (h:QT K q v V)(h':QT K' q' v' V)(he:q=q'):Calls Tryz.prog 61 #[v,v'] V (zao V fun v _=>v= .bool true):=by
 subst he
 obtain⟨b,x,y,rfl,hq,-,-,o1,o2⟩:=h
 obtain⟨b',x',y',rfl,hq',-,-,o1',o2'⟩:=h'
 exact gv (zkB (e:=[x,y,x',y']) (Env.start (by simp[o1,o2,o1',o2'])) (by simp) (by simp) (by simp) (by simp) hq hq')
theorem zdm (h:QT K q v V)(h':QT K' q' v' V)(he:q=q'):Calls Tryz.prog 15 #[v,v'] V (zao V fun v _=>v= .bool true):=by
 subst he
 obtain⟨b,x,y,rfl,hq,-,-,o1,o2⟩:=h
 obtain⟨b',x',y',rfl,hq',-,-,o1',o2'⟩:=h'
 exact gv (zrV (e:=[x,y,x',y']) (Env.start (by simp[o1,o2,o1',o2'])) (by simp) (by simp) (by simp) (by simp) hq hq')
theorem zqk (h:ZT K Z v V)(h':ZT K' Z' v' V)(he:Z=Z'):Calls Tryz.prog 38 #[v,v'] V (zao V fun v _=>v= .bool true):=by
 subst he
 obtain⟨b,x,rfl,⟨rfl,a2,a3⟩,-,o1⟩:=h
 obtain⟨b',x',rfl,⟨rfl,b2,b3⟩,-,o1'⟩:=h'
 exact gv (zkA _ (zf0 o1 o1') (by simp) (by simp) (by rw[a3,b3]) (by rw[a2,b2]))
theorem ztp (h:NT K N v V)(h':NT K' M v' V)(he:N=M):Calls Tryz.prog 42 #[v,v'] V (zao V fun v _=>v= .bool true):=by
 subst he
 obtain⟨x,rfl,a2,a3,-,o1⟩:=h
 obtain⟨x',rfl,b2,b3,-,o1'⟩:=h'
 exact gv (zho (zf0 o1 o1') (by simp) (by simp) (by rw[a3,b3]) (by rw[a2,b2]))
theorem ztq {n:Int}{d:Nat}{b:Bool}{x y:Num}(h:b=decide (n<0)∧x.N=n.natAbs∧x.n=lenL n.natAbs)(h1:y.N=d)(h2:y.n=lenL d)(hd:d≠0)(hg:Nat.gcd n.natAbs d=1):IsQ (mkRat n d) b x y:=by
 have hp:=zb3 (z:=n) hd
 rw[hg]at hp
 have e1:(mkRat n d).num=n:=by rw[hp.1];simp
 have e2:(mkRat n d).den=d:=by rw[hp.2];simp
 refine⟨by rw[e1];exact h.1,by rw[e1];exact h.2.1,by rw[h.2.1];exact h.2.2,by rw[e2];exact h1,by rw[h1];exact h2⟩
def GL (ps:List (Bool×Num×Num))(v:Value)(V:World):Prop:=∃(A:Option Addr) (c:Nat),v= .slice A ps.length c∧QRds V V.heap.size A ps∧ps.length≤100000000000000
theorem GL.keep {ps:List (Bool×Num×Num)}(h:GL ps v V)(hb:Below V.heap.size V V'):GL ps v V':=by
 obtain⟨A,c,h1,h2,h3⟩:=h;exact⟨A,c,h1,(h2.below hb).more hb.size,h3⟩
theorem zdU {ps:List (Bool×Num×Num)}{G:Bool}(h:GL ps v V)(hG:zbR ps=G):Calls Tryz.prog 9 #[v] V (zao V fun v _=>v= .bool G):=by
 obtain⟨A,c,rfl,hR,hl⟩:=h
 rw[←hG]
 exact ztc (zlH V _ A c ps hR hl)
section
variable {ls:List (Tmp × Value)}{a:Act}{o:Oper}{t1 t2 t3:Tmp}{b b' b'':Bool}{x y x' y' x'' y'':Num}
theorem zel (hop:o.op= .buildSlice 28 2 #[(0,.tmp t1),(1,.tmp t2)]) (h1:a.tmps.getD t1 undef= .agg #[.bool b,.slice x.A x.n x.c,.slice y.A y.n y.c]) (h2:a.tmps.getD t2 undef= .agg #[.bool b',.slice x'.A x'.n x'.c,.slice y'.A y'.n y'.c]) (o1:x.ok V V.heap.size) (o2:y.ok V V.heap.size) (o3:x'.ok V V.heap.size) (o4:y'.ok V V.heap.size):zgw o a V (GL [(b,x,y),(b',x',y')]):=by
 refine⟨.slice (some ⟨V.heap.size,0,none⟩) 2 2,V.alloc (.cells #[.bool b,.slice x.A x.n x.c,.slice y.A y.n y.c,.bool b',.slice x'.A x'.n x'.c,.slice y'.A y'.n y'.c] 27),?_,⟨_,2,rfl,QRds.lit (fun k hk=>?_) (by simp[o1,o2,o3,o4]),by simp⟩,zuB.alloc zuA _⟩
 ·rw[zag]at h1 h2
  obtain⟨dst,op,ty,pos,after,guard⟩:=o
  simp only at hop
  subst hop
  go_simp
 ·match k,hk with
  |0,_=>exact⟨rfl,rfl,rfl⟩
  |1,_=>exact⟨rfl,rfl,rfl⟩
end
theorem zql {n:Int}{d:Nat}{V:World}(hn: -9223372036854775808≤n∧n≤9223372036854775807)(hd:d<4294967296)(hd0:d≠0)(hg:Nat.gcd n.natAbs d=1):
  Calls Tryz.prog 76 #[.int .i64 n,.int .u32 (((d:Nat):Int))] V (zao V (QT 2 (mkRat n d))):=by
 refine zaD (e:=[]) Tryz.func76 rfl Tryz.ntmps76 (zuz rfl) [(0,.int .i64 n),(1,.int .u32 (((d:Nat):Int)))] rfl zaW (fun a S=>?_)
 refine wp_seq_k fun K1 hK1=>?_
 refine zaa ?_
 refine ti S (cs:=[.bool false,.slice none 0 0,.slice none 0 0]) (zap rfl (Tryz.zeroValue27 _) rfl) (fun g1=>[⟨g1,27,[.bool false,.slice none 0 0,.slice none 0 0]⟩]) fun g1 a V1 hgg1 S=>?_
 refine hK1 _ _ ?_
 refine wp_seq_k fun K2 hK2=>?_
 refine zaa ?_
 refine tv S (zad rfl (S.at 1 rfl)) fun a S=>?_
 refine tc S (F:=ZT 2 (n)) (rc1 Tryz.func44 (S.at 0 rfl)) (zjg (n:=n) hn) fun v a V2 hF hb S=>?_
 obtain⟨b1,x1,rfl,hz1,hk1,ok1⟩:=hF
 have S:=S.know ok1
 refine tv S (zad rfl (S.at 4 rfl)) fun a S=>?_
 refine ty S (F:=NT 1 (d)) (zrM (c:=d) rfl (S.at 0 rfl) hd hd0) fun v a V3 hF hb S=>?_
 obtain⟨x2,rfl,hN1,hn1,hk2,ok2⟩:=hF
 have S:=S.know ok2
 refine tv S (zaL rfl (S.at 2 rfl) (S.at 0 rfl) (zcs _ _ _ _ _ _ _)) fun a S=>?_
 refine zal S (i:=0) (vs:=(aL b1 x1 x2)) rfl (fun ht=>zah rfl (S.at 5 rfl) (S.at 0 rfl) zae rfl (zuz rfl) ht) (zuz rfl) rfl rfl rfl (lb':=[⟨g1,27,(aL b1 x1 x2)⟩]) rfl (fun V4 S=>?_)
 refine hK2 _ _ ?_
 refine wp_ret ?_
 exact za1 rfl S (S.at 5 rfl) (i:=0) rfl Tryz.underlying27 rfl zae ⟨_,rfl,⟨b1,x1,x2,rfl,ztq hz1 hN1 hn1 hd0 hg,hk1,zuC hk2 (by decide),(S.num 1 rfl),(S.num 0 rfl)⟩,S.below⟩
theorem zcl {V:World}(T:TT V):
  Calls Tryz.prog 10 #[] V (zao V (fun v _=>v= .bool true)):=by
 refine zaD (e:=[]) Tryz.func10 rfl Tryz.ntmps10 (zuz rfl) [] rfl zaW (fun a S=>?_)
 refine wp_seq_k fun K1 hK1=>?_
 refine zaa ?_
 refine tv S (zau rfl) fun a S=>?_
 refine hK1 _ _ ?_
 refine wp_seq_k fun K2 hK2=>?_
 refine zaa ?_
 refine tc S (F:=ZT 2 (2)) (rcc Tryz.func44) (zjg (n:=2) (by decide)) fun v a V1 hF hb S=>?_
 obtain⟨b1,x1,rfl,hz1,hk1,ok1⟩:=hF
 have S:=S.know ok1
 refine ty S (F:=NT 1 ((4:Nat))) (zbQ (c:=4) rfl (by decide) (by decide)) fun v a V2 hF hb S=>?_
 obtain⟨x2,rfl,hN1,hn1,hk2,ok2⟩:=hF
 have S:=S.know ok2
 refine tc S (F:=QE 2 (mkRat 2 (4:Nat)) (erz (4:Nat))) (rc2 Tryz.func11 (S.at 1 rfl) (S.at 0 rfl)) (zpe (T.keep S.below) (show ZT 2 (2) ((aZ b1 x1)) _ from⟨b1,x1,rfl,hz1,hk1,(S.num 1 rfl)⟩).any (show NT 1 ((4:Nat)) (aS x2) _ from⟨x2,rfl,hN1,hn1,hk2,(S.num 0 rfl)⟩).any (by omega) (by omega)) fun v a V3 hF hb S=>?_
 obtain⟨b2,x3,y1,rfl,hq1,hk3,hk4,ok3,ok4⟩:=hF
 have S:=S.know ok3
 have S:=S.know ok4
 refine tv S (zad rfl (S.at 0 rfl)) fun a S=>?_
 refine tv S (zaq rfl (S.at 0 rfl) rfl) fun a S=>?_
 refine tv S (zaq rfl (S.at 1 rfl) rfl) fun a S=>?_
 refine ti S (cs:=[.bool false,.slice none 0 0,.slice none 0 0]) (zap rfl (Tryz.zeroValue27 _) rfl) (fun g1=>[⟨g1,27,[.bool false,.slice none 0 0,.slice none 0 0]⟩]) fun g1 a V4 hgg1 S=>?_
 refine zal S (i:=0) (vs:=(aL b2 x3 y1)) rfl (fun ht=>zah rfl (S.at 0 rfl) (S.at 2 rfl) zae rfl (zuz rfl) ht) (zuz rfl) rfl rfl rfl (lb':=[⟨g1,27,(aL b2 x3 y1)⟩]) rfl (fun V5 S=>?_)
 refine tv S (zam rfl (S.at 1 rfl)) fun a S=>?_
 refine hK2 _ _ ?_
 refine wp_seq_k fun K3 hK3=>?_
 refine zaa ?_
 refine tc S (F:=ZT 2 (2)) (rcc Tryz.func44) (zjg (n:=2) (by decide)) fun v a V6 hF hb S=>?_
 obtain⟨b3,x4,rfl,hz2,hk5,ok5⟩:=hF
 have S:=S.know ok5
 refine tc S (F:=QE 2 (mkRat 2 0) (erz 0)) (zuf Tryz.func11 (S.at 0 rfl)) (zpe (T.keep S.below) (show ZT 2 (2) ((aZ b3 x4)) _ from⟨b3,x4,rfl,hz2,hk5,(S.num 0 rfl)⟩).any (show NT 0 (0) (.slice none 0 0) _ from zqa).any (by omega) (by omega)) fun v a V7 hF hb S=>?_
 obtain⟨b4,x5,y2,rfl,hq2,hk6,hk7,ok6,ok7⟩:=hF
 have S:=S.know ok6
 have S:=S.know ok7
 refine tv S (zad rfl (S.at 0 rfl)) fun a S=>?_
 refine tv S (zaq rfl (S.at 0 rfl) rfl) fun a S=>?_
 refine tv S (zaq rfl (S.at 1 rfl) rfl) fun a S=>?_
 refine ti S (cs:=[.bool false,.slice none 0 0,.slice none 0 0]) (zap rfl (Tryz.zeroValue27 _) rfl) (fun g2=>[⟨g1,27,(aL b2 x3 y1)⟩,⟨g2,27,[.bool false,.slice none 0 0,.slice none 0 0]⟩]) fun g2 a V8 hgg2 S=>?_
 refine zal S (i:=1) (vs:=(aL b4 x5 y2)) rfl (fun ht=>zah rfl (S.at 0 rfl) (S.at 2 rfl) zae rfl (zuz rfl) ht) (zuz rfl) rfl rfl rfl (lb':=[⟨g1,27,(aL b2 x3 y1)⟩,⟨g2,27,(aL b4 x5 y2)⟩]) rfl (fun V9 S=>?_)
 refine tv S (zam rfl (S.at 1 rfl)) fun a S=>?_
 refine hK3 _ _ ?_
 refine wp_seq_k fun K4 hK4=>?_
 have S:=S.keep [4,2,1] (ls':=[(4,.int .i64 (erz 0)),(2,.int .i64 (erz (4:Nat))),(1,pT g1 0)]) rfl
 refine zaa ?_
 refine tc S (F:=QT 2 (mkRat 1 2)) (zp6 Tryz.func76) (zql (n:=1) (d:=2) (by decide) (by decide) (by decide) (by decide)) fun v a V10 hF hb S=>?_
 obtain⟨b5,x6,y3,rfl,hq3,hk8,hk9,ok8,ok9⟩:=hF
 have S:=S.know ok8
 have S:=S.know ok9
 refine tc S (F:=QT 2 (mkRat 1 3)) (zp6 Tryz.func76) (zql (n:=1) (d:=3) (by decide) (by decide) (by decide) (by decide)) fun v a V11 hF hb S=>?_
 obtain⟨b6,x7,y4,rfl,hq4,hk10,hk11,ok10,ok11⟩:=hF
 have S:=S.know ok10
 have S:=S.know ok11
 refine tc S (F:=QT 6 (((mkRat 1 2)+(mkRat 1 3))/2)) (rc2 Tryz.func36 (S.at 1 rfl) (S.at 0 rfl)) (zsf (T.keep S.below) (show QT 2 (mkRat 1 2) ((aG b5 x6 y3)) _ from⟨b5,x6,y3,rfl,hq3,hk8,hk9,(S.num 3 rfl),(S.num 2 rfl)⟩).any (show QT 2 (mkRat 1 3) ((aG b6 x7 y4)) _ from⟨b6,x7,y4,rfl,hq4,hk10,hk11,(S.num 1 rfl),(S.num 0 rfl)⟩).any (by omega) (by omega)) fun v a V12 hF hb S=>?_
 obtain⟨b7,x8,y5,rfl,hq5,hk12,hk13,ok12,ok13⟩:=hF
 have S:=S.know ok12
 have S:=S.know ok13
 refine ti S (cs:=[.bool false,.slice none 0 0,.slice none 0 0]) (zap rfl (Tryz.zeroValue27 _) rfl) (fun g3=>[⟨g1,27,(aL b2 x3 y1)⟩,⟨g2,27,(aL b4 x5 y2)⟩,⟨g3,27,[.bool false,.slice none 0 0,.slice none 0 0]⟩]) fun g3 a V13 hgg3 S=>?_
 refine zal S (i:=2) (vs:=(aL b7 x8 y5)) rfl (fun ht=>zah rfl (S.at 0 rfl) (S.at 1 rfl) zae rfl (zuz rfl) ht) (zuz rfl) rfl rfl rfl (lb':=[⟨g1,27,(aL b2 x3 y1)⟩,⟨g2,27,(aL b4 x5 y2)⟩,⟨g3,27,(aL b7 x8 y5)⟩]) rfl (fun V14 S=>?_)
 refine hK4 _ _ ?_
 refine wp_seq_k fun K5 hK5=>?_
 obtain⟨W1,hW1⟩:∃W,W=V14:=⟨_,rfl⟩
 rw[←hW1]at S ⊢
 have S0:=S
 refine fr 28 [20,21,22,23,24,25,26,27,28,29,30,31,32,33,34,35,36,37,38,39,40,41,42,43,44,45,46,47] [IsV (.int .i64 (erz (4:Nat))),IsV (.bool true),IsV (.bool true),IsV ((aG b2 x3 y1)),QT 2 (mkRat 1 2),IsV (.bool true),IsV (.bool true),IsV (.bool true),IsV (.int .i64 (erz 0)),IsV (.bool true),IsV (.bool true),IsV (.bool true),QT 2 (mkRat (-1) 2),ZT 3 (Rat.floor (mkRat (-1) 2)),ZT 2 (-1),IsV (.bool true),IsV (.bool true),IsV (.bool true),IsV ((aG b7 x8 y5)),QT 2 (mkRat 5 12),IsV (.bool true),IsV (.bool true),IsV (.bool true),ZT 2 (3),Q1 2 (0),IsV (.int .i64 (zaK 0 0)),IsV (.bool true),IsV (.bool true)] S ?_ ?_
 ·refine sc (fun _ _ S _ _=>sv rfl (zad rfl (S.at 5 rfl))) ?_
  refine sc (fun _ _ _ _ hd=>sv rfl (zbc (zct _ (by decide) rfl (hd.v 0 rfl rfl) rfl) (show(decide (erz (4:Nat)=0))=true from(by decide)))) ?_
  refine sc (fun _ _ _ _ hd=>sv rfl (zad rfl (hd.v 1 rfl rfl))) ?_
  refine sc (fun _ _ S _ hd=>svg rfl (hd.v 2 rfl rfl) (zab rfl (S.at 6 rfl) (S.bx 0 rfl) Tryz.underlying27 rfl (vs:=(aL b2 x3 y1)) zae rfl)) ?_
  refine sc (fun _ _ _ _ hd=>slg rfl (hd.v 2 rfl rfl) (zp6 Tryz.func76) (zql (n:=1) (d:=2) (by decide) (by decide) (by decide) (by decide))) ?_
  refine sc (fun _ _ S _ hd=>slg rfl (hd.v 2 rfl rfl) (rc2 Tryz.func61 (hd.v 3 rfl rfl) rfl) (zqj (show QT 2 (mkRat 2 (4:Nat)) ((aG b2 x3 y1)) _ from⟨b2,x3,y1,rfl,hq1,hk3,hk4,(S.num 10 rfl),(S.num 9 rfl)⟩) (hd.r 4 rfl rfl) (by decide+kernel))) ?_
  refine sc (fun _ _ _ _ hd=>sv rfl (zaM true rfl (hd.v 2 rfl rfl) (hd.v 5 rfl rfl))) ?_
  refine sc (fun _ _ _ _ hd=>sv rfl (zad rfl (hd.v 6 rfl rfl))) ?_
  refine sc (fun _ _ S _ hd=>svg rfl (hd.v 7 rfl rfl) (zad rfl (S.at 4 rfl))) ?_
  refine sc (fun _ _ _ _ hd=>svg rfl (hd.v 7 rfl rfl) (zbc (zct _ (by decide) rfl (hd.v 8 rfl rfl) rfl) (show(decide (erz 0=30))=true from(by decide)))) ?_
  refine sc (fun _ _ _ _ hd=>sv rfl (zaM true rfl (hd.v 7 rfl rfl) (hd.v 9 rfl rfl))) ?_
  refine sc (fun _ _ _ _ hd=>sv rfl (zad rfl (hd.v 10 rfl rfl))) ?_
  refine sc (fun _ _ _ _ hd=>slg rfl (hd.v 11 rfl rfl) (zp6 Tryz.func76) (zql (n:= -1) (d:=2) (by decide) (by decide) (by decide) (by decide))) ?_
  refine sc (fun _ _ S _ hd=>slg rfl (hd.v 11 rfl rfl) (rc1 Tryz.func39 rfl) (zml (T.keep S.below) ((hd.r 12 rfl rfl)).any (by omega))) ?_
  refine sc (fun _ _ _ _ hd=>slg rfl (hd.v 11 rfl rfl) (rcc Tryz.func44) (zjg (n:= -1) (by decide))) ?_
  refine sc (fun _ _ _ _ hd=>slg rfl (hd.v 11 rfl rfl) (rc2 Tryz.func38 rfl rfl) (zqk (hd.r 13 rfl rfl) (hd.r 14 rfl rfl) (by decide+kernel))) ?_
  refine sc (fun _ _ _ _ hd=>sv rfl (zaM true rfl (hd.v 11 rfl rfl) (hd.v 15 rfl rfl))) ?_
  refine sc (fun _ _ _ _ hd=>sv rfl (zad rfl (hd.v 16 rfl rfl))) ?_
  refine sc (fun _ _ S _ hd=>svg rfl (hd.v 17 rfl rfl) (zab rfl (S.at 0 rfl) (S.bx 2 rfl) Tryz.underlying27 rfl (vs:=(aL b7 x8 y5)) zae rfl)) ?_
  refine sc (fun _ _ _ _ hd=>slg rfl (hd.v 17 rfl rfl) (zp6 Tryz.func76) (zql (n:=5) (d:=12) (by decide) (by decide) (by decide) (by decide))) ?_
  refine sc (fun _ _ S _ hd=>slg rfl (hd.v 17 rfl rfl) (rc2 Tryz.func61 (hd.v 18 rfl rfl) rfl) (zqj (show QT 6 (((mkRat 1 2)+(mkRat 1 3))/2) ((aG b7 x8 y5)) _ from⟨b7,x8,y5,rfl,hq5,hk12,hk13,(S.num 1 rfl),(S.num 0 rfl)⟩) (hd.r 19 rfl rfl) (by decide+kernel))) ?_
  refine sc (fun _ _ _ _ hd=>sv rfl (zaM true rfl (hd.v 17 rfl rfl) (hd.v 20 rfl rfl))) ?_
  refine sc (fun _ _ _ _ hd=>sv rfl (zad rfl (hd.v 21 rfl rfl))) ?_
  refine sc (fun _ _ _ _ hd=>slg rfl (hd.v 22 rfl rfl) (rcc Tryz.func44) (zjg (n:=3) (by decide))) ?_
  refine sc (fun _ _ _ _ hd=>by
   obtain⟨v,hv,hq⟩:=zth (hd.r 23 rfl rfl)
   exact svg rfl (hd.v 22 rfl rfl) (zbp rfl rfl hv) hq) ?_
  refine sc (fun _ _ S _ hd=>slg rfl (hd.v 22 rfl rfl) (rc1 Tryz.func16 rfl) (zpf (T.keep S.below) (hd.r 24 rfl rfl) (by omega))) ?_
  refine sc (fun _ _ _ _ hd=>svg rfl (hd.v 22 rfl rfl) (zbc (zct _ (by decide) rfl (hd.v 25 rfl rfl) rfl) (show(decide (zaK 0 0=0))=true from(by rw[zfD];rfl)))) ?_
  refine sc (fun _ _ _ _ hd=>sv rfl (zaM true rfl (hd.v 22 rfl rfl) (hd.v 26 rfl rfl))) ?_
  exact sn
 ·intro a1 V15 S hB hf
  have S:=S.add (hf.v 27 rfl rfl)
  clear hf S0
  show wpList _ _ _ [_] _ _
  refine tv S (zam rfl (S.at 0 rfl)) fun a S=>?_
  refine hK5 _ _ ?_
  refine wp_ret ?_
  exact za5 rfl S (S.at 0 rfl) ⟨_,rfl,rfl,S.below⟩
end
section
variable {v v' v1 v2 v3:Value}{V V':World}{K K' N M:Nat}{q q' q0 q1 q2:Rat}{Z Z':Int}
structure AddMul (V0:World):Prop where
 add2:∀ {V:World} {K:Nat} {q1 q2:Rat} {v:Value},TT V→Below V0.heap.size V0 V→QRow K [q1,q2] v V→K≤1000→Calls Tryz.prog 28 #[v] V (zao V (QT (2*max K 1+1) (q1+q2)))
 mul2:∀ {V:World} {K:Nat} {q1 q2:Rat} {v:Value},TT V→Below V0.heap.size V0 V→QRow K [q1,q2] v V→K≤1000→Calls Tryz.prog 30 #[v] V (zao V (QT (2*max K 1) (q1*q2)))
theorem QV.sml {u:Value}(h:QV K q u v V)(hs:Sm K' q):QV K' q u v V:=by
 obtain⟨b,x,y,h1,h2,h3,h4,h5⟩:=h
 exact⟨b,x,y,h1,h2,(zcU h2 hs).1,(zcU h2 hs).2,h5⟩
theorem zf7 {b b':Bool}{x y x' y':Num}(h:zbR [(b,x,y),(b',x',y')]=false):x.n+y.n+(x'.n+y'.n)≤40:=by
 have:=(zc7 h).2
 simp[zfH]at this
 omega
theorem zum (h:decide (zaK q 0=0)=false):q≠0:=fun h0=>of_decide_eq_false h (ziu.2 h0)
end
end Go.Proofs.YtafokgknenienaaGreatDoor
