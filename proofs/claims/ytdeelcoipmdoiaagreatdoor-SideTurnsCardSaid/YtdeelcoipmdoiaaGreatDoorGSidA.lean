/- A part. -/
import Derived.Test.YtdeelcoipmdoiaaGreatDoorGVVec
set_option maxHeartbeats 4000000
set_option maxRecDepth 100000
namespace Go.Proofs.YtdeelcoipmdoiaaGreatDoor
open Go Go.RowKit
section
variable {a a' b b' p p' d d' s t u w:Rat}
def crs (a a' b b' p p':Rat):Rat:=(b - a)*(p' - a') - (b' - a')*(p - a)
theorem zdR (a b:Rat):zaj a b=zaj (a - b) 0:=by
 have:=zgk a b (-b)
 rw[←this,show a+ -b=a - b by grind,show b+ -b=0 by grind]
theorem zqW (q:Rat):zaj q 0=q.num.sign:=by
 rw[zhb];simp
theorem zoj (a b:Rat):zaj (a*b) 0=zaj a 0*zaj b 0:=by
 have:=znW a 0 b
 rw[Rat.zero_mul]at this
 rw[this,zqW b]
theorem zez (a b:Rat):(a<b∧zaj a b= -1)∨(a=b∧zaj a b=0)∨(b<a∧zaj a b=1):=by
 by_cases h:a<b
 ·exact .inl ⟨h,zd7 h⟩
 ·by_cases h2:b<a
  ·exact .inr (.inr ⟨h2,zd8 h2⟩)
  ·exact .inr (.inl ⟨by grind,by simp[zaj,h,h2]⟩)
theorem zhg (h:zaj b a*zaj p' a'≠zaj b' a'*zaj p a∨zaj b a*zaj p' a'=0):zbC (zaj b a*zaj p' a') (zaj b' a'*zaj p a)=zaj (crs a a' b b' p p') 0:=by
 have e1:zaj b a*zaj p' a'=zaj ((b - a)*(p' - a')) 0:=by rw[zoj,←zdR,←zdR]
 have e2:zaj b' a'*zaj p a=zaj ((b' - a')*(p - a)) 0:=by rw[zoj,←zdR,←zdR]
 rw[e1,e2]at h ⊢
 unfold crs
 generalize (b - a)*(p' - a')=u at h ⊢
 generalize (b' - a')*(p - a)=w at h ⊢
 rw[←zdR]
 unfold zbC
 rcases zez u 0 with⟨h1,e1⟩|⟨h1,e1⟩|⟨h1,e1⟩ <;> rcases zez w 0 with⟨h2,e2⟩|⟨h2,e2⟩|⟨h2,e2⟩ <;> rw[e1,e2]at h ⊢ <;> rcases zez u w with⟨h3,e3⟩|⟨h3,e3⟩|⟨h3,e3⟩ <;> rw[e3] <;> first|decide|(exfalso;grind)
def inRow (a a' b b' c c':Rat):Int:=zcS a a' b b'*zcS b b' c c'
def onR (a a' b b' p p':Rat):Bool:=decide (crs a a' b b' p p'=0)&&decide (0≤inRow a a' p p' b b')
def zdr (a a' b b' p p':Rat):Bool:=decide (crs a a' b b' p p'=0)&&decide (0<inRow a a' p p' b b')
def zcL (a a' b b' p p':Rat):Bool:=decide (crs a a' b b' p p'=0)&&decide (0<inRow a a' b b' p p')
theorem zok:crs a a' p p' b b'= -crs a a' b b' p p':=by unfold crs;grind
theorem zh5:crs b b' p p' a a'=crs a a' b b' p p':=by unfold crs;grind
theorem zol:crs b b' a a' p p'= -crs a a' b b' p p':=by unfold crs;grind
theorem zqX:crs a a' a a' p p'=0:=by unfold crs;grind
end
abbrev QQ:=Rat×Rat
def cz (x y z:QQ):Rat:=crs x.1 x.2 y.1 y.2 z.1 z.2
def zom (l:List QQ):Prop:=∀x∈l,∀y∈l,∀z∈l,cz x y z=0
section
variable {n m:Int}
theorem zqY (h:decide (n<m)=true): -1=zbC n m:=by unfold zbC;rw[if_pos (of_decide_eq_true h)]
theorem zqZ (h:decide (n<m)=false)(h':decide (m<n)=true):1=zbC n m:=by unfold zbC;rw[if_neg (of_decide_eq_false h),if_pos (of_decide_eq_true h')]
theorem zq0 (h:decide (n<m)=false)(h':decide (m<n)=false):0=zbC n m:=by unfold zbC;rw[if_neg (of_decide_eq_false h),if_neg (of_decide_eq_false h')]
theorem zon {x y:Int}(h: -1≤x∧x≤1)(h': -1≤y∧y≤1):Inr (x*y):=by
 have h1:x= -1∨x=0∨x=1:=by omega
 have h2:y= -1∨y=0∨y=1:=by omega
 unfold Inr
 rcases h1 with rfl|rfl|rfl <;> rcases h2 with rfl|rfl|rfl <;> decide
theorem zds (a b c d:Rat):Inr (zaj a b*zaj c d):=zon (zb7 _ _) (zb7 _ _)
theorem zq1 (a b c d e f g h:Rat):Inr (zcS a b c d*zcS e f g h):=zon (zgw _ _ _ _) (zgw _ _ _ _)
variable {q1 q1' q2 q2' q3 q3':Rat}
theorem zec {q:Rat}:decide (zaj q 0=0)=decide (q=0):=decide_eq_decide.2 zgL
theorem zrH (h:decide (zaj (crs q1 q1' q2 q2' q3 q3') 0=0)=true):decide (0≤inRow q1 q1' q3 q3' q2 q2')=onR q1 q1' q2 q2' q3 q3':=by rw[zec]at h;unfold onR;rw[h];rfl
theorem zrI (h:decide (zaj (crs q1 q1' q2 q2' q3 q3') 0=0)=false):false=onR q1 q1' q2 q2' q3 q3':=by rw[zec]at h;unfold onR;rw[h];rfl
theorem zmn (h:decide (zaj (crs q1 q1' q2 q2' q3 q3') 0=0)=true):decide (0<inRow q1 q1' q3 q3' q2 q2')=zdr q1 q1' q2 q2' q3 q3':=by rw[zec]at h;unfold zdr;rw[h];rfl
theorem zmo (h:decide (zaj (crs q1 q1' q2 q2' q3 q3') 0=0)=false):false=zdr q1 q1' q2 q2' q3 q3':=by rw[zec]at h;unfold zdr;rw[h];rfl
theorem zje (h:decide (zaj (crs q1 q1' q2 q2' q3 q3') 0=0)=true):decide (0<inRow q1 q1' q2 q2' q3 q3')=zcL q1 q1' q2 q2' q3 q3':=by rw[zec]at h;unfold zcL;rw[h];rfl
theorem zjf (h:decide (zaj (crs q1 q1' q2 q2' q3 q3') 0=0)=false):false=zcL q1 q1' q2 q2' q3 q3':=by rw[zec]at h;unfold zcL;rw[h];rfl
end
section
variable {a:Act}{V:World}{o:Oper}{t1:Tmp}{g:Nat}
theorem zoo (ho:o.op= .indexAddr 62 (.tmp t1) (.const (.int .i64 0))) (h1:a.tmps.getD t1 undef= .pointer (some ⟨g,0,none⟩)):(execOp a.eval o).run Tryz.prog V= .ok (.value (.pointer (some ⟨g,0,none⟩))) V:=by
 rw[zaf]at h1
 obtain⟨dst,op,ty,pos,after,guard⟩:=o
 simp only at ho
 subst ho
 go_simp
theorem zop (ho:o.op= .indexAddr 62 (.tmp t1) (.const (.int .i64 1))) (h1:a.tmps.getD t1 undef= .pointer (some ⟨g,0,none⟩)):(execOp a.eval o).run Tryz.prog V= .ok (.value (.pointer (some ⟨g,6,none⟩))) V:=by
 rw[zaf]at h1
 obtain⟨dst,op,ty,pos,after,guard⟩:=o
 simp only at ho
 subst ho
 go_simp
theorem zoq (ho:o.op= .indexAddr 62 (.tmp t1) (.const (.int .i64 2))) (h1:a.tmps.getD t1 undef= .pointer (some ⟨g,0,none⟩)):(execOp a.eval o).run Tryz.prog V= .ok (.value (.pointer (some ⟨g,12,none⟩))) V:=by
 rw[zaf]at h1
 obtain⟨dst,op,ty,pos,after,guard⟩:=o
 simp only at ho
 subst ho
 go_simp
end
theorem zhh {n:Int}{V:World}:
  Calls Tryz.prog 61 #[.int .i64 n] V (zao V (fun v _=>v= .bool false)):=by
 refine zaz (e:=[]) Tryz.func61 rfl Tryz.ntmps61 (zsj rfl) [(0,.int .i64 n)] rfl zaW (fun a S=>?_)
 refine wp_seq_k fun K1 hK1=>?_
 refine zab ?_
 refine tv S (zaA rfl) fun a S=>?_
 refine hK1 _ _ ?_
 refine wp_seq_k fun K2 hK2=>?_
 refine zab ?_
 refine tv S (zac rfl (S.at 1 rfl)) fun a S=>?_
 refine tv S (zac rfl (S.at 2 rfl)) fun a S=>?_
 refine tv S (zaX (zdq _ (by decide) rfl (S.at 1 rfl) (S.at 0 rfl)) (show(!decide (n=n))=false from(by simp))) fun a S=>?_
 refine za9 S (v:= .bool false) (zal rfl (S.at 0 rfl)) rfl rfl (by decide) (ls':=[(5,.bool false),(4,.int .i64 n),(3,.int .i64 n),(0,.int .i64 n)]) rfl (fun a S=>?_)
 refine hK2 _ _ ?_
 refine wp_ret ?_
 exact zaM rfl S (S.at 0 rfl) ⟨_,rfl,rfl,S.below⟩
theorem zor {n m:Int}{V:World}:
  Calls Tryz.prog 36 #[.int .i64 n,.int .i64 m] V (zao V (fun v _=>v= .int .i64 (zbC n m))):=by
 refine zaz (e:=[]) Tryz.func36 rfl Tryz.ntmps36 (zsj rfl) [(0,.int .i64 n),(1,.int .i64 m)] rfl zaW (fun a S=>?_)
 refine wp_seq_k fun K1 hK1=>?_
 refine zab ?_
 refine tv S (zaA rfl) fun a S=>?_
 refine hK1 _ _ ?_
 refine wp_seq_k fun K2 hK2=>?_
 refine zab ?_
 refine tv S (zac rfl (S.at 1 rfl)) fun a S=>?_
 refine tc S (F:=(fun v _=>v= .bool false)) (rc1 Tryz.func61 (S.at 0 rfl)) (zhh (n:=n)) fun v a V1 hF hb S=>?_
 subst hF
 refine tv S (zal rfl (S.at 0 rfl)) fun a S=>?_
 refine hK2 _ _ ?_
 refine wp_seq_k fun K3 hK3=>?_
 refine zab ?_
 refine tv S (zac rfl (S.at 5 rfl)) fun a S=>?_
 refine tc S (F:=(fun v _=>v= .bool false)) (rc1 Tryz.func61 (S.at 0 rfl)) (zhh (n:=m)) fun v a V2 hF hb S=>?_
 subst hF
 refine tv S (zal rfl (S.at 0 rfl)) fun a S=>?_
 refine hK3 _ _ ?_
 refine wp_seq_k fun K4 hK4=>?_
 refine wp_seq_k fun K5 hK5=>?_
 refine zab ?_
 refine tv S (zac rfl (S.at 3 rfl)) fun a S=>?_
 refine hK5 _ _ ?_
 refine wp_cond_false (S.at 0 rfl) ?_
 refine wp_skip ?_
 refine hK4 _ _ ?_
 refine wp_seq_k fun K6 hK6=>?_
 refine wp_seq_k fun K7 hK7=>?_
 refine zab ?_
 refine tv S (zac rfl (S.at 1 rfl)) fun a S=>?_
 refine hK7 _ _ ?_
 refine wp_cond_false (S.at 0 rfl) ?_
 refine wp_skip ?_
 refine hK6 _ _ ?_
 refine wp_seq_k fun K8 hK8=>?_
 refine wp_seq_k fun K9 hK9=>?_
 refine zab ?_
 refine tv S (zac rfl (S.at 9 rfl)) fun a S=>?_
 refine tv S (zac rfl (S.at 11 rfl)) fun a S=>?_
 refine tv S (zdO rfl (S.at 1 rfl) (S.at 0 rfl)) fun a S=>?_
 refine hK9 _ _ ?_
 rcases zst (decide (n<m))with hc16|hc16
 ·refine wp_cond_true ((S.at 0 rfl).trans (congrArg Value.bool hc16)) ?_
  refine wp_seq_k fun K10 hK10=>?_
  have S:=S.keep [4] (ls':=[(4,.int .i64 0)]) rfl
  refine zab ?_
  refine za9 S (v:= .int .i64 (-1)) (zaA rfl) rfl rfl (by decide) (ls':=[]) rfl (fun a S=>?_)
  refine hK10 _ _ ?_
  refine wp_ret ?_
  exact zaM rfl S (S.at 0 rfl) ⟨_,rfl,congrArg (Value.int .i64) (zqY hc16),S.below⟩
 ·refine wp_cond_false ((S.at 0 rfl).trans (congrArg Value.bool hc16)) ?_
  refine wp_skip ?_
  refine hK8 _ _ ?_
  refine wp_seq_k fun K11 hK11=>?_
  refine wp_seq_k fun K12 hK12=>?_
  have S:=S.keep [0,1] (ls':=[(0,.int .i64 n),(1,.int .i64 m)]) rfl
  refine zab ?_
  refine tv S (zac rfl (S.at 0 rfl)) fun a S=>?_
  refine tv S (zac rfl (S.at 2 rfl)) fun a S=>?_
  refine tv S (zb9 rfl (S.at 1 rfl) (S.at 0 rfl)) fun a S=>?_
  refine hK12 _ _ ?_
  rcases zst (decide (m<n))with hc19|hc19
  ·refine wp_cond_true ((S.at 0 rfl).trans (congrArg Value.bool hc19)) ?_
   refine wp_seq_k fun K13 hK13=>?_
   refine zab ?_
   refine tv S (zaA rfl) fun a S=>?_
   refine hK13 _ _ ?_
   refine wp_ret ?_
   exact zaM rfl S (S.at 0 rfl) ⟨_,rfl,congrArg (Value.int .i64) (zqZ hc16 hc19),S.below⟩
  ·refine wp_cond_false ((S.at 0 rfl).trans (congrArg Value.bool hc19)) ?_
   refine wp_skip ?_
   refine hK11 _ _ ?_
   refine wp_seq_k fun K14 hK14=>?_
   refine zab ?_
   refine tv S (zaA rfl) fun a S=>?_
   refine hK14 _ _ ?_
   refine wp_ret ?_
   exact zaM rfl S (S.at 0 rfl) ⟨_,rfl,congrArg (Value.int .i64) (zq0 hc16 hc19),S.below⟩
theorem zk0 {K K':Nat}{q1 q1' q2 q2':Rat}{v1 v2:Value}{V:World}(T:TT V)(h1:P1 K (q1) (q1') v1 V)(h2:P1 K' (q2) (q2') v2 V)(hK0:K≤400)(hK1:K'≤400):
  Calls Tryz.prog 35 #[v1,v2] V (zao V (fun v _=>v= .tuple #[.int .i64 (zaj q2 q1),.int .i64 (zaj q2' q1')])):=by
 obtain⟨b1,x1,y1,b2,x2,y2,rfl,hq1,hq2,⟨hk1,hk2⟩,⟨hk3,hk4⟩,⟨ok1,ok2⟩,ok3,ok4⟩:=h1
 obtain⟨b3,x3,y3,b4,x4,y4,rfl,hq3,hq4,⟨hk5,hk6⟩,⟨hk7,hk8⟩,⟨ok5,ok6⟩,ok7,ok8⟩:=h2
 refine zaz (e:=[x3,y3,x4,y4,x1,y1,x2,y2]) Tryz.func35 rfl Tryz.ntmps35 (zsj rfl) [(0,.agg #[.bool b1,.slice x1.A x1.n x1.c,.slice y1.A y1.n y1.c,.bool b2,.slice x2.A x2.n x2.c,.slice y2.A y2.n y2.c]),(1,.agg #[.bool b3,.slice x3.A x3.n x3.c,.slice y3.A y3.n y3.c,.bool b4,.slice x4.A x4.n x4.c,.slice y4.A y4.n y4.c])] rfl (zaa ok5 (zaa ok6 (zaa ok7 (zaa ok8 (zaa ok1 (zaa ok2 (zaa ok3 (zaa ok4 zaW)))))))) (fun a S=>?_)
 refine wp_seq_k fun K1 hK1=>?_
 refine zab ?_
 refine ti S (cs:=[.bool b1,.slice x1.A x1.n x1.c,.slice y1.A y1.n y1.c,.bool b2,.slice x2.A x2.n x2.c,.slice y2.A y2.n y2.c]) (zaB rfl (S.at 0 rfl) rfl) (fun g1=>[⟨g1,29,[.bool b1,.slice x1.A x1.n x1.c,.slice y1.A y1.n y1.c,.bool b2,.slice x2.A x2.n x2.c,.slice y2.A y2.n y2.c]⟩]) fun g1 a V1 hgg1 S=>?_
 refine ti S (cs:=[.bool b3,.slice x3.A x3.n x3.c,.slice y3.A y3.n y3.c,.bool b4,.slice x4.A x4.n x4.c,.slice y4.A y4.n y4.c]) (zaB rfl (S.at 2 rfl) rfl) (fun g2=>[⟨g1,29,[.bool b1,.slice x1.A x1.n x1.c,.slice y1.A y1.n y1.c,.bool b2,.slice x2.A x2.n x2.c,.slice y2.A y2.n y2.c]⟩,⟨g2,29,[.bool b3,.slice x3.A x3.n x3.c,.slice y3.A y3.n y3.c,.bool b4,.slice x4.A x4.n x4.c,.slice y4.A y4.n y4.c]⟩]) fun g2 a V2 hgg2 S=>?_
 refine tv S (zaA rfl) fun a S=>?_
 refine tv S (zaA rfl) fun a S=>?_
 refine hK1 _ _ ?_
 refine wp_seq_k fun K2 hK2=>?_
 have S:=S.keep [5,4,3,2] (ls':=[(5,.int .i64 0),(4,.int .i64 0),(3,.pointer (some ⟨g2,0,none⟩)),(2,.pointer (some ⟨g1,0,none⟩))]) rfl
 obtain⟨W1,hW1⟩:∃W,W=V2:=⟨_,rfl⟩
 rw[←hW1]at S ⊢
 have S0:=S
 refine fr 10 [6,7,8,9,10,11,12,13,14,15] [IsV (.pointer (some ⟨g2,0,none⟩)),IsV (.agg #[.bool b3,.slice x3.A x3.n x3.c,.slice y3.A y3.n y3.c]),IsV (.pointer (some ⟨g1,0,none⟩)),IsV (.agg #[.bool b1,.slice x1.A x1.n x1.c,.slice y1.A y1.n y1.c]),IsV (.int .i64 (zaj q2 q1)),IsV (.pointer (some ⟨g2,3,none⟩)),IsV (.agg #[.bool b4,.slice x4.A x4.n x4.c,.slice y4.A y4.n y4.c]),IsV (.pointer (some ⟨g1,3,none⟩)),IsV (.agg #[.bool b2,.slice x2.A x2.n x2.c,.slice y2.A y2.n y2.c]),IsV (.int .i64 (zaj (q2') (q1')))] S ?_ ?_
 ·refine sc (fun _ _ S _ _=>sv rfl (zah rfl (S.at 2 rfl) (zb1 _))) ?_
  refine sc (fun _ _ S _ hd=>sv rfl (zad rfl (hd.v 0 rfl rfl) (S.bx 1 rfl) Tryz.underlying27 rfl (vs:=[.bool b3,.slice x3.A x3.n x3.c,.slice y3.A y3.n y3.c]) zaG rfl)) ?_
  refine sc (fun _ _ S _ _=>sv rfl (zah rfl (S.at 3 rfl) (zb1 _))) ?_
  refine sc (fun _ _ S _ hd=>sv rfl (zad rfl (hd.v 2 rfl rfl) (S.bx 0 rfl) Tryz.underlying27 rfl (vs:=[.bool b1,.slice x1.A x1.n x1.c,.slice y1.A y1.n y1.c]) zaG rfl)) ?_
  refine sc (fun _ _ S _ hd=>sl rfl (rc2 Tryz.func49 (hd.v 1 rfl rfl) (hd.v 3 rfl rfl)) (zkQ (T.keep S.below) (show Q1 K' (q2) (.agg #[.bool b3,.slice x3.A x3.n x3.c,.slice y3.A y3.n y3.c]) _ from⟨b3,x3,y3,rfl,hq3,hk5,hk6,(S.num 0 rfl),(S.num 1 rfl)⟩) (show Q1 K (q1) (.agg #[.bool b1,.slice x1.A x1.n x1.c,.slice y1.A y1.n y1.c]) _ from⟨b1,x1,y1,rfl,hq1,hk1,hk2,(S.num 4 rfl),(S.num 5 rfl)⟩) (by omega) (by omega))) ?_
  refine sc (fun _ _ S _ _=>sv rfl (zah rfl (S.at 2 rfl) (zb2 _))) ?_
  refine sc (fun _ _ S _ hd=>sv rfl (zad rfl (hd.v 5 rfl rfl) (S.bx 1 rfl) Tryz.underlying27 rfl (vs:=[.bool b4,.slice x4.A x4.n x4.c,.slice y4.A y4.n y4.c]) zaG rfl)) ?_
  refine sc (fun _ _ S _ _=>sv rfl (zah rfl (S.at 3 rfl) (zb2 _))) ?_
  refine sc (fun _ _ S _ hd=>sv rfl (zad rfl (hd.v 7 rfl rfl) (S.bx 0 rfl) Tryz.underlying27 rfl (vs:=[.bool b2,.slice x2.A x2.n x2.c,.slice y2.A y2.n y2.c]) zaG rfl)) ?_
  refine sc (fun _ _ S _ hd=>sl rfl (rc2 Tryz.func49 (hd.v 6 rfl rfl) (hd.v 8 rfl rfl)) (zkQ (T.keep S.below) (show Q1 K' (q2') (.agg #[.bool b4,.slice x4.A x4.n x4.c,.slice y4.A y4.n y4.c]) _ from⟨b4,x4,y4,rfl,hq4,hk7,hk8,(S.num 2 rfl),(S.num 3 rfl)⟩) (show Q1 K (q1') (.agg #[.bool b2,.slice x2.A x2.n x2.c,.slice y2.A y2.n y2.c]) _ from⟨b2,x2,y2,rfl,hq2,hk3,hk4,(S.num 6 rfl),(S.num 7 rfl)⟩) (by omega) (by omega))) ?_
  exact sn
 ·intro a1 V3 S hB hf
  have S:=S.add (hf.v 4 rfl rfl)
  have S:=S.add (hf.v 9 rfl rfl)
  clear hf S0
  show wpList _ _ _ [_,_] _ _
  refine za9 S (v:= .int .i64 (zaj q2 q1)) (zal rfl (S.at 1 rfl)) rfl rfl (by decide) (ls':=[(15,.int .i64 (zaj (q2') (q1'))),(10,.int .i64 (zaj q2 q1)),(5,.int .i64 0),(3,.pointer (some ⟨g2,0,none⟩)),(2,.pointer (some ⟨g1,0,none⟩))]) rfl (fun a S=>?_)
  refine za9 S (v:= .int .i64 (zaj (q2') (q1'))) (zal rfl (S.at 1 rfl)) rfl rfl (by decide) (ls':=[(4,.int .i64 (zaj q2 q1)),(15,.int .i64 (zaj (q2') (q1'))),(10,.int .i64 (zaj q2 q1)),(3,.pointer (some ⟨g2,0,none⟩)),(2,.pointer (some ⟨g1,0,none⟩))]) rfl (fun a S=>?_)
  refine hK2 _ _ ?_
  refine wp_ret ?_
  exact zl3 rfl S (S.at 1 rfl) (S.at 0 rfl) ⟨_,rfl,rfl,S.below⟩
theorem zb3 {Ka Kb Kc:Nat}{q1 q1' q2 q2' q3 q3':Rat}{v1 v2 v3:Value}{V:World}(T:TT V)(h1:P1 Ka (q1) (q1') v1 V)(h2:P1 Kb (q2) (q2') v2 V)(h3:P1 Kc (q3) (q3') v3 V)(hK1:Ka≤400)(hK2:Kb≤400)(hK3:Kc≤400)(hs0:Sm 250 (q2 - q1))(hs1:Sm 250 (q2' - q1'))(hs2:Sm 250 (q3 - q1))(hs3:Sm 250 (q3' - q1')):
  Calls Tryz.prog 10 #[v1,v2,v3] V (zao V (fun v _=>v= .int .i64 (zaj (crs q1 q1' q2 q2' q3 q3') 0))):=by
 obtain⟨b1,x1,y1,b2,x2,y2,rfl,hq1,hq2,⟨hk1,hk2⟩,⟨hk3,hk4⟩,⟨ok1,ok2⟩,ok3,ok4⟩:=h1
 obtain⟨b3,x3,y3,b4,x4,y4,rfl,hq3,hq4,⟨hk5,hk6⟩,⟨hk7,hk8⟩,⟨ok5,ok6⟩,ok7,ok8⟩:=h2
 obtain⟨b5,x5,y5,b6,x6,y6,rfl,hq5,hq6,⟨hk9,hk10⟩,⟨hk11,hk12⟩,⟨ok9,ok10⟩,ok11,ok12⟩:=h3
 refine zaz (e:=[x5,y5,x6,y6,x3,y3,x4,y4,x1,y1,x2,y2]) Tryz.func10 rfl Tryz.ntmps10 (zsj rfl) [(0,.agg #[.bool b1,.slice x1.A x1.n x1.c,.slice y1.A y1.n y1.c,.bool b2,.slice x2.A x2.n x2.c,.slice y2.A y2.n y2.c]),(1,.agg #[.bool b3,.slice x3.A x3.n x3.c,.slice y3.A y3.n y3.c,.bool b4,.slice x4.A x4.n x4.c,.slice y4.A y4.n y4.c]),(2,.agg #[.bool b5,.slice x5.A x5.n x5.c,.slice y5.A y5.n y5.c,.bool b6,.slice x6.A x6.n x6.c,.slice y6.A y6.n y6.c])] rfl (zaa ok9 (zaa ok10 (zaa ok11 (zaa ok12 (zaa ok5 (zaa ok6 (zaa ok7 (zaa ok8 (zaa ok1 (zaa ok2 (zaa ok3 (zaa ok4 zaW)))))))))))) (fun a S=>?_)
 refine wp_seq_k fun K1 hK1=>?_
 refine zab ?_
 refine ti S (cs:=[.bool b1,.slice x1.A x1.n x1.c,.slice y1.A y1.n y1.c,.bool b2,.slice x2.A x2.n x2.c,.slice y2.A y2.n y2.c]) (zaB rfl (S.at 0 rfl) rfl) (fun g1=>[⟨g1,29,[.bool b1,.slice x1.A x1.n x1.c,.slice y1.A y1.n y1.c,.bool b2,.slice x2.A x2.n x2.c,.slice y2.A y2.n y2.c]⟩]) fun g1 a V1 hgg1 S=>?_
 refine ti S (cs:=[.bool b3,.slice x3.A x3.n x3.c,.slice y3.A y3.n y3.c,.bool b4,.slice x4.A x4.n x4.c,.slice y4.A y4.n y4.c]) (zaB rfl (S.at 2 rfl) rfl) (fun g2=>[⟨g1,29,[.bool b1,.slice x1.A x1.n x1.c,.slice y1.A y1.n y1.c,.bool b2,.slice x2.A x2.n x2.c,.slice y2.A y2.n y2.c]⟩,⟨g2,29,[.bool b3,.slice x3.A x3.n x3.c,.slice y3.A y3.n y3.c,.bool b4,.slice x4.A x4.n x4.c,.slice y4.A y4.n y4.c]⟩]) fun g2 a V2 hgg2 S=>?_
 refine ti S (cs:=[.bool b5,.slice x5.A x5.n x5.c,.slice y5.A y5.n y5.c,.bool b6,.slice x6.A x6.n x6.c,.slice y6.A y6.n y6.c]) (zaB rfl (S.at 4 rfl) rfl) (fun g3=>[⟨g1,29,[.bool b1,.slice x1.A x1.n x1.c,.slice y1.A y1.n y1.c,.bool b2,.slice x2.A x2.n x2.c,.slice y2.A y2.n y2.c]⟩,⟨g2,29,[.bool b3,.slice x3.A x3.n x3.c,.slice y3.A y3.n y3.c,.bool b4,.slice x4.A x4.n x4.c,.slice y4.A y4.n y4.c]⟩,⟨g3,29,[.bool b5,.slice x5.A x5.n x5.c,.slice y5.A y5.n y5.c,.bool b6,.slice x6.A x6.n x6.c,.slice y6.A y6.n y6.c]⟩]) fun g3 a V3 hgg3 S=>?_
 refine tv S (zaA rfl) fun a S=>?_
 refine hK1 _ _ ?_
 refine wp_seq_k fun K2 hK2=>?_
 refine zab ?_
 refine tv S (zad rfl (S.at 3 rfl) (S.bx 0 rfl) Tryz.underlying29 rfl (vs:=[.bool b1,.slice x1.A x1.n x1.c,.slice y1.A y1.n y1.c,.bool b2,.slice x2.A x2.n x2.c,.slice y2.A y2.n y2.c]) zam rfl) fun a S=>?_
 refine tv S (zad rfl (S.at 3 rfl) (S.bx 1 rfl) Tryz.underlying29 rfl (vs:=[.bool b3,.slice x3.A x3.n x3.c,.slice y3.A y3.n y3.c,.bool b4,.slice x4.A x4.n x4.c,.slice y4.A y4.n y4.c]) zam rfl) fun a S=>?_
 refine tc S (F:=(fun v _=>v= .tuple #[.int .i64 (zaj q2 q1),.int .i64 (zaj (q2') (q1'))])) (rc2 Tryz.func35 (S.at 1 rfl) (S.at 0 rfl)) (zk0 (T.keep S.below) (show P1 Ka (q1) (q1') (.agg #[.bool b1,.slice x1.A x1.n x1.c,.slice y1.A y1.n y1.c,.bool b2,.slice x2.A x2.n x2.c,.slice y2.A y2.n y2.c]) _ from⟨b1,x1,y1,b2,x2,y2,rfl,hq1,hq2,⟨hk1,hk2⟩,⟨hk3,hk4⟩,⟨(S.num 8 rfl),(S.num 9 rfl)⟩,(S.num 10 rfl),(S.num 11 rfl)⟩) (show P1 Kb (q2) (q2') (.agg #[.bool b3,.slice x3.A x3.n x3.c,.slice y3.A y3.n y3.c,.bool b4,.slice x4.A x4.n x4.c,.slice y4.A y4.n y4.c]) _ from⟨b3,x3,y3,b4,x4,y4,rfl,hq3,hq4,⟨hk5,hk6⟩,⟨hk7,hk8⟩,⟨(S.num 4 rfl),(S.num 5 rfl)⟩,(S.num 6 rfl),(S.num 7 rfl)⟩) (by omega) (by omega)) fun v a V4 hF hb S=>?_
 subst hF
 refine tv S (zac rfl (S.at 0 rfl)) fun a S=>?_
 refine tv S (zbg rfl (S.at 0 rfl) rfl) fun a S=>?_
 refine tv S (zbg rfl (S.at 1 rfl) rfl) fun a S=>?_
 refine tv S (zal rfl (S.at 1 rfl)) fun a S=>?_
 refine tv S (zal rfl (S.at 1 rfl)) fun a S=>?_
 refine hK2 _ _ ?_
 refine wp_seq_k fun K3 hK3=>?_
 refine zab ?_
 refine tv S (zad rfl (S.at 11 rfl) (S.bx 0 rfl) Tryz.underlying29 rfl (vs:=[.bool b1,.slice x1.A x1.n x1.c,.slice y1.A y1.n y1.c,.bool b2,.slice x2.A x2.n x2.c,.slice y2.A y2.n y2.c]) zam rfl) fun a S=>?_
 refine tv S (zad rfl (S.at 10 rfl) (S.bx 2 rfl) Tryz.underlying29 rfl (vs:=[.bool b5,.slice x5.A x5.n x5.c,.slice y5.A y5.n y5.c,.bool b6,.slice x6.A x6.n x6.c,.slice y6.A y6.n y6.c]) zam rfl) fun a S=>?_
 refine tc S (F:=(fun v _=>v= .tuple #[.int .i64 (zaj q3 q1),.int .i64 (zaj (q3') (q1'))])) (rc2 Tryz.func35 (S.at 1 rfl) (S.at 0 rfl)) (zk0 (T.keep S.below) (show P1 Ka (q1) (q1') (.agg #[.bool b1,.slice x1.A x1.n x1.c,.slice y1.A y1.n y1.c,.bool b2,.slice x2.A x2.n x2.c,.slice y2.A y2.n y2.c]) _ from⟨b1,x1,y1,b2,x2,y2,rfl,hq1,hq2,⟨hk1,hk2⟩,⟨hk3,hk4⟩,⟨(S.num 8 rfl),(S.num 9 rfl)⟩,(S.num 10 rfl),(S.num 11 rfl)⟩) (show P1 Kc (q3) (q3') (.agg #[.bool b5,.slice x5.A x5.n x5.c,.slice y5.A y5.n y5.c,.bool b6,.slice x6.A x6.n x6.c,.slice y6.A y6.n y6.c]) _ from⟨b5,x5,y5,b6,x6,y6,rfl,hq5,hq6,⟨hk9,hk10⟩,⟨hk11,hk12⟩,⟨(S.num 0 rfl),(S.num 1 rfl)⟩,(S.num 2 rfl),(S.num 3 rfl)⟩) (by omega) (by omega)) fun v a V5 hF hb S=>?_
 subst hF
 refine tv S (zac rfl (S.at 0 rfl)) fun a S=>?_
 refine tv S (zbg rfl (S.at 0 rfl) rfl) fun a S=>?_
 refine tv S (zbg rfl (S.at 1 rfl) rfl) fun a S=>?_
 refine tv S (zal rfl (S.at 1 rfl)) fun a S=>?_
 refine tv S (zal rfl (S.at 1 rfl)) fun a S=>?_
 refine hK3 _ _ ?_
 refine wp_seq_k fun K4 hK4=>?_
 refine wp_seq_k fun K5 hK5=>?_
 rcases zst (decide (zaj q2 q1*zaj q3' q1'=zaj q2' q1'*zaj q3 q1))with hs1_|hs1_
 ·skip
  have S:=S.keep [10,9,8,7,5,4,3] (ls':=[(10,.int .i64 (zaj (q3') (q1'))),(9,.int .i64 (zaj q3 q1)),(8,.int .i64 (zaj (q2') (q1'))),(7,.int .i64 (zaj q2 q1)),(5,.pointer (some ⟨g3,0,none⟩)),(4,.pointer (some ⟨g2,0,none⟩)),(3,.pointer (some ⟨g1,0,none⟩))]) rfl
  refine zab ?_
  refine tv S (zac rfl (S.at 3 rfl)) fun a S=>?_
  refine tv S (zac rfl (S.at 1 rfl)) fun a S=>?_
  refine tv S (zc3 rfl (S.at 1 rfl) (S.at 0 rfl) (zds _ _ _ _)) fun a S=>?_
  refine tv S (zac rfl (S.at 5 rfl)) fun a S=>?_
  refine tv S (zac rfl (S.at 5 rfl)) fun a S=>?_
  refine tv S (zc3 rfl (S.at 1 rfl) (S.at 0 rfl) (zds _ _ _ _)) fun a S=>?_
  refine tv S (zaX (zdq _ (by decide) rfl (S.at 3 rfl) (S.at 0 rfl)) (show(!decide ((zaj q2 q1)*(zaj (q3') (q1'))=(zaj (q2') (q1'))*(zaj q3 q1)))=false from(by rw[hs1_];rfl))) fun a S=>?_
  refine tv S (zac rfl (S.at 0 rfl)) fun a S=>?_
  refine tvg S (S.at 0 rfl) (zac rfl (S.at 11 rfl)) fun a S=>?_
  refine tvg S (S.at 1 rfl) (zac rfl (S.at 9 rfl)) fun a S=>?_
  refine tvg S (S.at 2 rfl) (zc3 rfl (S.at 1 rfl) (S.at 0 rfl) (zds _ _ _ _)) fun a S=>?_
  refine tvg S (S.at 3 rfl) (zbW _ (by decide) rfl (S.at 0 rfl) rfl) fun a S=>?_
  refine tv S (zaP false rfl (S.at 4 rfl) (S.at 0 rfl)) fun a S=>?_
  refine hK5 _ _ ?_
  rcases zst (decide ((zaj q2 q1)*(zaj (q3') (q1'))=0))with hc35|hc35
  ·refine wp_cond_true ((S.at 0 rfl).trans (congrArg Value.bool hc35)) ?_
   refine wp_seq_k fun K6 hK6=>?_
   have S:=S.keep [10,9,8,7] (ls':=[(10,.int .i64 (zaj (q3') (q1'))),(9,.int .i64 (zaj q3 q1)),(8,.int .i64 (zaj (q2') (q1'))),(7,.int .i64 (zaj q2 q1))]) rfl
   refine zab ?_
   refine tv S (zac rfl (S.at 3 rfl)) fun a S=>?_
   refine tv S (zac rfl (S.at 1 rfl)) fun a S=>?_
   refine tv S (zc3 rfl (S.at 1 rfl) (S.at 0 rfl) (zds _ _ _ _)) fun a S=>?_
   refine tv S (zac rfl (S.at 5 rfl)) fun a S=>?_
   refine tv S (zac rfl (S.at 5 rfl)) fun a S=>?_
   refine tv S (zc3 rfl (S.at 1 rfl) (S.at 0 rfl) (zds _ _ _ _)) fun a S=>?_
   refine tc S (F:=(fun v _=>v= .int .i64 (zbC ((zaj q2 q1)*(zaj (q3') (q1'))) ((zaj (q2') (q1'))*(zaj q3 q1))))) (rc2 Tryz.func36 (S.at 3 rfl) (S.at 0 rfl)) (zor (n:=(zaj q2 q1)*(zaj (q3') (q1'))) (m:=(zaj (q2') (q1'))*(zaj q3 q1))) fun v a V6 hF hb S=>?_
   subst hF
   refine tv S (zal rfl (S.at 0 rfl)) fun a S=>?_
   refine hK6 _ _ ?_
   refine wp_ret ?_
   exact zaM rfl S (S.at 0 rfl) ⟨_,rfl,congrArg (Value.int .i64) (zhg (.inr (of_decide_eq_true hc35))),S.below⟩
  ·refine wp_cond_false ((S.at 0 rfl).trans (congrArg Value.bool hc35)) ?_
   refine wp_skip ?_
   refine hK4 _ _ ?_
   refine wp_seq_k fun K7 hK7=>?_
   have S:=S.keep [5,4,3] (ls':=[(5,.pointer (some ⟨g3,0,none⟩)),(4,.pointer (some ⟨g2,0,none⟩)),(3,.pointer (some ⟨g1,0,none⟩))]) rfl
   obtain⟨W1,hW1⟩:∃W,W=V5:=⟨_,rfl⟩
   rw[←hW1]at S ⊢
   have S0:=S
   refine fr 8 [43,44,45,46,47,48,49,50] [IsV (.agg #[.bool b3,.slice x3.A x3.n x3.c,.slice y3.A y3.n y3.c,.bool b4,.slice x4.A x4.n x4.c,.slice y4.A y4.n y4.c]),IsV (.agg #[.bool b1,.slice x1.A x1.n x1.c,.slice y1.A y1.n y1.c,.bool b2,.slice x2.A x2.n x2.c,.slice y2.A y2.n y2.c]),PT 250 (q2 - q1) ((q2') - (q1')),IsV (.agg #[.bool b5,.slice x5.A x5.n x5.c,.slice y5.A y5.n y5.c,.bool b6,.slice x6.A x6.n x6.c,.slice y6.A y6.n y6.c]),IsV (.agg #[.bool b1,.slice x1.A x1.n x1.c,.slice y1.A y1.n y1.c,.bool b2,.slice x2.A x2.n x2.c,.slice y2.A y2.n y2.c]),PT 250 (q3 - q1) ((q3') - (q1')),QT 1001 ((q2 - q1)*((q3') - (q1')) - ((q2') - (q1'))*(q3 - q1)),IsV (.int .i64 (zaj ((q2 - q1)*((q3') - (q1')) - ((q2') - (q1'))*(q3 - q1)) 0))] S ?_ ?_
   ·refine sc (fun _ _ S _ _=>sv rfl (zad rfl (S.at 1 rfl) (S.bx 1 rfl) Tryz.underlying29 rfl (vs:=[.bool b3,.slice x3.A x3.n x3.c,.slice y3.A y3.n y3.c,.bool b4,.slice x4.A x4.n x4.c,.slice y4.A y4.n y4.c]) zam rfl)) ?_
    refine sc (fun _ _ S _ _=>sv rfl (zad rfl (S.at 2 rfl) (S.bx 0 rfl) Tryz.underlying29 rfl (vs:=[.bool b1,.slice x1.A x1.n x1.c,.slice y1.A y1.n y1.c,.bool b2,.slice x2.A x2.n x2.c,.slice y2.A y2.n y2.c]) zam rfl)) ?_
    refine sc (fun _ _ S _ hd=>sl rfl (rc2 Tryz.func39 (hd.v 0 rfl rfl) (hd.v 1 rfl rfl)) (zeo (zrT (T.keep S.below) (show P1 Kb (q2) (q2') (.agg #[.bool b3,.slice x3.A x3.n x3.c,.slice y3.A y3.n y3.c,.bool b4,.slice x4.A x4.n x4.c,.slice y4.A y4.n y4.c]) _ from⟨b3,x3,y3,b4,x4,y4,rfl,hq3,hq4,⟨hk5,hk6⟩,⟨hk7,hk8⟩,⟨(S.num 4 rfl),(S.num 5 rfl)⟩,(S.num 6 rfl),(S.num 7 rfl)⟩) (show P1 Ka (q1) (q1') (.agg #[.bool b1,.slice x1.A x1.n x1.c,.slice y1.A y1.n y1.c,.bool b2,.slice x2.A x2.n x2.c,.slice y2.A y2.n y2.c]) _ from⟨b1,x1,y1,b2,x2,y2,rfl,hq1,hq2,⟨hk1,hk2⟩,⟨hk3,hk4⟩,⟨(S.num 8 rfl),(S.num 9 rfl)⟩,(S.num 10 rfl),(S.num 11 rfl)⟩) (by omega) (by omega)) (fun _ _ h=>h.sml (by assumption) (by assumption)))) ?_
    refine sc (fun _ _ S _ _=>sv rfl (zad rfl (S.at 0 rfl) (S.bx 2 rfl) Tryz.underlying29 rfl (vs:=[.bool b5,.slice x5.A x5.n x5.c,.slice y5.A y5.n y5.c,.bool b6,.slice x6.A x6.n x6.c,.slice y6.A y6.n y6.c]) zam rfl)) ?_
    refine sc (fun _ _ S _ _=>sv rfl (zad rfl (S.at 2 rfl) (S.bx 0 rfl) Tryz.underlying29 rfl (vs:=[.bool b1,.slice x1.A x1.n x1.c,.slice y1.A y1.n y1.c,.bool b2,.slice x2.A x2.n x2.c,.slice y2.A y2.n y2.c]) zam rfl)) ?_
    refine sc (fun _ _ S _ hd=>sl rfl (rc2 Tryz.func39 (hd.v 3 rfl rfl) (hd.v 4 rfl rfl)) (zeo (zrT (T.keep S.below) (show P1 Kc (q3) (q3') (.agg #[.bool b5,.slice x5.A x5.n x5.c,.slice y5.A y5.n y5.c,.bool b6,.slice x6.A x6.n x6.c,.slice y6.A y6.n y6.c]) _ from⟨b5,x5,y5,b6,x6,y6,rfl,hq5,hq6,⟨hk9,hk10⟩,⟨hk11,hk12⟩,⟨(S.num 0 rfl),(S.num 1 rfl)⟩,(S.num 2 rfl),(S.num 3 rfl)⟩) (show P1 Ka (q1) (q1') (.agg #[.bool b1,.slice x1.A x1.n x1.c,.slice y1.A y1.n y1.c,.bool b2,.slice x2.A x2.n x2.c,.slice y2.A y2.n y2.c]) _ from⟨b1,x1,y1,b2,x2,y2,rfl,hq1,hq2,⟨hk1,hk2⟩,⟨hk3,hk4⟩,⟨(S.num 8 rfl),(S.num 9 rfl)⟩,(S.num 10 rfl),(S.num 11 rfl)⟩) (by omega) (by omega)) (fun _ _ h=>h.sml (by assumption) (by assumption)))) ?_
    refine sc (fun _ _ S _ hd=>sl rfl (rc2 Tryz.func38 rfl rfl) (zpQ (T.keep S.below) ((hd.r 2 rfl rfl)).any ((hd.r 5 rfl rfl)).any (by omega) (by omega))) ?_
    refine sc (fun _ _ S _ hd=>sl rfl (rc1 Tryz.func37 rfl) (zqy (T.keep S.below) ((hd.r 6 rfl rfl)).any (by omega))) ?_
    exact sn
   ·intro a1 V7 S hB hf
    have S:=S.add (hf.v 7 rfl rfl)
    clear hf S0
    show wpList _ _ _ [_] _ _
    refine tv S (zal rfl (S.at 0 rfl)) fun a S=>?_
    refine hK7 _ _ ?_
    refine wp_ret ?_
    exact zaM rfl S (S.at 0 rfl) ⟨_,rfl,rfl,S.below⟩
 ·skip
  have S:=S.keep [10,9,8,7,5,4,3] (ls':=[(10,.int .i64 (zaj (q3') (q1'))),(9,.int .i64 (zaj q3 q1)),(8,.int .i64 (zaj (q2') (q1'))),(7,.int .i64 (zaj q2 q1)),(5,.pointer (some ⟨g3,0,none⟩)),(4,.pointer (some ⟨g2,0,none⟩)),(3,.pointer (some ⟨g1,0,none⟩))]) rfl
  refine zab ?_
  refine tv S (zac rfl (S.at 3 rfl)) fun a S=>?_
  refine tv S (zac rfl (S.at 1 rfl)) fun a S=>?_
  refine tv S (zc3 rfl (S.at 1 rfl) (S.at 0 rfl) (zds _ _ _ _)) fun a S=>?_
  refine tv S (zac rfl (S.at 5 rfl)) fun a S=>?_
  refine tv S (zac rfl (S.at 5 rfl)) fun a S=>?_
  refine tv S (zc3 rfl (S.at 1 rfl) (S.at 0 rfl) (zds _ _ _ _)) fun a S=>?_
  refine tv S (zaX (zdq _ (by decide) rfl (S.at 3 rfl) (S.at 0 rfl)) (show(!decide ((zaj q2 q1)*(zaj (q3') (q1'))=(zaj (q2') (q1'))*(zaj q3 q1)))=true from(by rw[hs1_];rfl))) fun a S=>?_
  refine tv S (zac rfl (S.at 0 rfl)) fun a S=>?_
  refine tk S (S.at 0 rfl) fun a S=>?_
  refine tk S (S.at 1 rfl) fun a S=>?_
  refine tk S (S.at 2 rfl) fun a S=>?_
  refine tk S (S.at 3 rfl) fun a S=>?_
  refine tv S (zaP true rfl (S.at 4 rfl) rfl) fun a S=>?_
  refine hK5 _ _ ?_
  refine wp_cond_true (S.at 0 rfl) ?_
  refine wp_seq_k fun K8 hK8=>?_
  have S:=S.keep [10,9,8,7] (ls':=[(10,.int .i64 (zaj (q3') (q1'))),(9,.int .i64 (zaj q3 q1)),(8,.int .i64 (zaj (q2') (q1'))),(7,.int .i64 (zaj q2 q1))]) rfl
  refine zab ?_
  refine tv S (zac rfl (S.at 3 rfl)) fun a S=>?_
  refine tv S (zac rfl (S.at 1 rfl)) fun a S=>?_
  refine tv S (zc3 rfl (S.at 1 rfl) (S.at 0 rfl) (zds _ _ _ _)) fun a S=>?_
  refine tv S (zac rfl (S.at 5 rfl)) fun a S=>?_
  refine tv S (zac rfl (S.at 5 rfl)) fun a S=>?_
  refine tv S (zc3 rfl (S.at 1 rfl) (S.at 0 rfl) (zds _ _ _ _)) fun a S=>?_
  refine tc S (F:=(fun v _=>v= .int .i64 (zbC ((zaj q2 q1)*(zaj (q3') (q1'))) ((zaj (q2') (q1'))*(zaj q3 q1))))) (rc2 Tryz.func36 (S.at 3 rfl) (S.at 0 rfl)) (zor (n:=(zaj q2 q1)*(zaj (q3') (q1'))) (m:=(zaj (q2') (q1'))*(zaj q3 q1))) fun v a V8 hF hb S=>?_
  subst hF
  refine tv S (zal rfl (S.at 0 rfl)) fun a S=>?_
  refine hK8 _ _ ?_
  refine wp_ret ?_
  exact zaM rfl S (S.at 0 rfl) ⟨_,rfl,congrArg (Value.int .i64) (zhg (.inl (of_decide_eq_false hs1_))),S.below⟩
theorem zh6 {Ka Kb Kc:Nat}{q1 q1' q2 q2' q3 q3':Rat}{v1 v2 v3:Value}{V:World}(T:TT V)(h1:P1 Ka (q1) (q1') v1 V)(h2:P1 Kb (q2) (q2') v2 V)(h3:P1 Kc (q3) (q3') v3 V)(hK1:Ka≤400)(hK2:Kb≤400)(hK3:Kc≤400):
  Calls Tryz.prog 44 #[v1,v2,v3] V (zao V (fun v _=>v= .int .i64 (inRow q1 q1' q2 q2' q3 q3'))):=by
 obtain⟨b1,x1,y1,b2,x2,y2,rfl,hq1,hq2,⟨hk1,hk2⟩,⟨hk3,hk4⟩,⟨ok1,ok2⟩,ok3,ok4⟩:=h1
 obtain⟨b3,x3,y3,b4,x4,y4,rfl,hq3,hq4,⟨hk5,hk6⟩,⟨hk7,hk8⟩,⟨ok5,ok6⟩,ok7,ok8⟩:=h2
 obtain⟨b5,x5,y5,b6,x6,y6,rfl,hq5,hq6,⟨hk9,hk10⟩,⟨hk11,hk12⟩,⟨ok9,ok10⟩,ok11,ok12⟩:=h3
 refine zaz (e:=[x5,y5,x6,y6,x3,y3,x4,y4,x1,y1,x2,y2]) Tryz.func44 rfl Tryz.ntmps44 (zsj rfl) [(0,.agg #[.bool b1,.slice x1.A x1.n x1.c,.slice y1.A y1.n y1.c,.bool b2,.slice x2.A x2.n x2.c,.slice y2.A y2.n y2.c]),(1,.agg #[.bool b3,.slice x3.A x3.n x3.c,.slice y3.A y3.n y3.c,.bool b4,.slice x4.A x4.n x4.c,.slice y4.A y4.n y4.c]),(2,.agg #[.bool b5,.slice x5.A x5.n x5.c,.slice y5.A y5.n y5.c,.bool b6,.slice x6.A x6.n x6.c,.slice y6.A y6.n y6.c])] rfl (zaa ok9 (zaa ok10 (zaa ok11 (zaa ok12 (zaa ok5 (zaa ok6 (zaa ok7 (zaa ok8 (zaa ok1 (zaa ok2 (zaa ok3 (zaa ok4 zaW)))))))))))) (fun a S=>?_)
 refine wp_seq_k fun K1 hK1=>?_
 refine zab ?_
 refine ti S (cs:=[.bool b1,.slice x1.A x1.n x1.c,.slice y1.A y1.n y1.c,.bool b2,.slice x2.A x2.n x2.c,.slice y2.A y2.n y2.c]) (zaB rfl (S.at 0 rfl) rfl) (fun g1=>[⟨g1,29,[.bool b1,.slice x1.A x1.n x1.c,.slice y1.A y1.n y1.c,.bool b2,.slice x2.A x2.n x2.c,.slice y2.A y2.n y2.c]⟩]) fun g1 a V1 hgg1 S=>?_
 refine ti S (cs:=[.bool b3,.slice x3.A x3.n x3.c,.slice y3.A y3.n y3.c,.bool b4,.slice x4.A x4.n x4.c,.slice y4.A y4.n y4.c]) (zaB rfl (S.at 2 rfl) rfl) (fun g2=>[⟨g1,29,[.bool b1,.slice x1.A x1.n x1.c,.slice y1.A y1.n y1.c,.bool b2,.slice x2.A x2.n x2.c,.slice y2.A y2.n y2.c]⟩,⟨g2,29,[.bool b3,.slice x3.A x3.n x3.c,.slice y3.A y3.n y3.c,.bool b4,.slice x4.A x4.n x4.c,.slice y4.A y4.n y4.c]⟩]) fun g2 a V2 hgg2 S=>?_
 refine ti S (cs:=[.bool b5,.slice x5.A x5.n x5.c,.slice y5.A y5.n y5.c,.bool b6,.slice x6.A x6.n x6.c,.slice y6.A y6.n y6.c]) (zaB rfl (S.at 4 rfl) rfl) (fun g3=>[⟨g1,29,[.bool b1,.slice x1.A x1.n x1.c,.slice y1.A y1.n y1.c,.bool b2,.slice x2.A x2.n x2.c,.slice y2.A y2.n y2.c]⟩,⟨g2,29,[.bool b3,.slice x3.A x3.n x3.c,.slice y3.A y3.n y3.c,.bool b4,.slice x4.A x4.n x4.c,.slice y4.A y4.n y4.c]⟩,⟨g3,29,[.bool b5,.slice x5.A x5.n x5.c,.slice y5.A y5.n y5.c,.bool b6,.slice x6.A x6.n x6.c,.slice y6.A y6.n y6.c]⟩]) fun g3 a V3 hgg3 S=>?_
 refine tv S (zaA rfl) fun a S=>?_
 refine hK1 _ _ ?_
 refine wp_seq_k fun K2 hK2=>?_
 have S:=S.keep [6,5,4,3] (ls':=[(6,.int .i64 0),(5,.pointer (some ⟨g3,0,none⟩)),(4,.pointer (some ⟨g2,0,none⟩)),(3,.pointer (some ⟨g1,0,none⟩))]) rfl
 obtain⟨W1,hW1⟩:∃W,W=V3:=⟨_,rfl⟩
 rw[←hW1]at S ⊢
 have S0:=S
 refine fr 7 [7,8,9,10,11,12,13] [IsV (.agg #[.bool b1,.slice x1.A x1.n x1.c,.slice y1.A y1.n y1.c,.bool b2,.slice x2.A x2.n x2.c,.slice y2.A y2.n y2.c]),IsV (.agg #[.bool b3,.slice x3.A x3.n x3.c,.slice y3.A y3.n y3.c,.bool b4,.slice x4.A x4.n x4.c,.slice y4.A y4.n y4.c]),IsV (.int .i64 (zcS q1 (q1') q2 (q2'))),IsV (.agg #[.bool b3,.slice x3.A x3.n x3.c,.slice y3.A y3.n y3.c,.bool b4,.slice x4.A x4.n x4.c,.slice y4.A y4.n y4.c]),IsV (.agg #[.bool b5,.slice x5.A x5.n x5.c,.slice y5.A y5.n y5.c,.bool b6,.slice x6.A x6.n x6.c,.slice y6.A y6.n y6.c]),IsV (.int .i64 (zcS q2 (q2') q3 (q3'))),IsV (.int .i64 ((zcS q1 (q1') q2 (q2'))*(zcS q2 (q2') q3 (q3'))))] S ?_ ?_
 ·refine sc (fun _ _ S _ _=>sv rfl (zad rfl (S.at 3 rfl) (S.bx 0 rfl) Tryz.underlying29 rfl (vs:=[.bool b1,.slice x1.A x1.n x1.c,.slice y1.A y1.n y1.c,.bool b2,.slice x2.A x2.n x2.c,.slice y2.A y2.n y2.c]) zam rfl)) ?_
  refine sc (fun _ _ S _ _=>sv rfl (zad rfl (S.at 2 rfl) (S.bx 1 rfl) Tryz.underlying29 rfl (vs:=[.bool b3,.slice x3.A x3.n x3.c,.slice y3.A y3.n y3.c,.bool b4,.slice x4.A x4.n x4.c,.slice y4.A y4.n y4.c]) zam rfl)) ?_
  refine sc (fun _ _ S _ hd=>sl rfl (rc2 Tryz.func71 (hd.v 0 rfl rfl) (hd.v 1 rfl rfl)) (zrU (T.keep S.below) (show P1 Ka (q1) (q1') (.agg #[.bool b1,.slice x1.A x1.n x1.c,.slice y1.A y1.n y1.c,.bool b2,.slice x2.A x2.n x2.c,.slice y2.A y2.n y2.c]) _ from⟨b1,x1,y1,b2,x2,y2,rfl,hq1,hq2,⟨hk1,hk2⟩,⟨hk3,hk4⟩,⟨(S.num 8 rfl),(S.num 9 rfl)⟩,(S.num 10 rfl),(S.num 11 rfl)⟩) (show P1 Kb (q2) (q2') (.agg #[.bool b3,.slice x3.A x3.n x3.c,.slice y3.A y3.n y3.c,.bool b4,.slice x4.A x4.n x4.c,.slice y4.A y4.n y4.c]) _ from⟨b3,x3,y3,b4,x4,y4,rfl,hq3,hq4,⟨hk5,hk6⟩,⟨hk7,hk8⟩,⟨(S.num 4 rfl),(S.num 5 rfl)⟩,(S.num 6 rfl),(S.num 7 rfl)⟩) (by omega) (by omega))) ?_
  refine sc (fun _ _ S _ _=>sv rfl (zad rfl (S.at 2 rfl) (S.bx 1 rfl) Tryz.underlying29 rfl (vs:=[.bool b3,.slice x3.A x3.n x3.c,.slice y3.A y3.n y3.c,.bool b4,.slice x4.A x4.n x4.c,.slice y4.A y4.n y4.c]) zam rfl)) ?_
  refine sc (fun _ _ S _ _=>sv rfl (zad rfl (S.at 1 rfl) (S.bx 2 rfl) Tryz.underlying29 rfl (vs:=[.bool b5,.slice x5.A x5.n x5.c,.slice y5.A y5.n y5.c,.bool b6,.slice x6.A x6.n x6.c,.slice y6.A y6.n y6.c]) zam rfl)) ?_
  refine sc (fun _ _ S _ hd=>sl rfl (rc2 Tryz.func71 (hd.v 3 rfl rfl) (hd.v 4 rfl rfl)) (zrU (T.keep S.below) (show P1 Kb (q2) (q2') (.agg #[.bool b3,.slice x3.A x3.n x3.c,.slice y3.A y3.n y3.c,.bool b4,.slice x4.A x4.n x4.c,.slice y4.A y4.n y4.c]) _ from⟨b3,x3,y3,b4,x4,y4,rfl,hq3,hq4,⟨hk5,hk6⟩,⟨hk7,hk8⟩,⟨(S.num 4 rfl),(S.num 5 rfl)⟩,(S.num 6 rfl),(S.num 7 rfl)⟩) (show P1 Kc (q3) (q3') (.agg #[.bool b5,.slice x5.A x5.n x5.c,.slice y5.A y5.n y5.c,.bool b6,.slice x6.A x6.n x6.c,.slice y6.A y6.n y6.c]) _ from⟨b5,x5,y5,b6,x6,y6,rfl,hq5,hq6,⟨hk9,hk10⟩,⟨hk11,hk12⟩,⟨(S.num 0 rfl),(S.num 1 rfl)⟩,(S.num 2 rfl),(S.num 3 rfl)⟩) (by omega) (by omega))) ?_
  refine sc (fun _ _ _ _ hd=>sv rfl (zc3 rfl (hd.v 2 rfl rfl) (hd.v 5 rfl rfl) (zq1 _ _ _ _ _ _ _ _))) ?_
  exact sn
 ·intro a1 V4 S hB hf
  have S:=S.add (hf.v 6 rfl rfl)
  clear hf S0
  show wpList _ _ _ [_] _ _
  refine za9 S (v:= .int .i64 ((zcS q1 (q1') q2 (q2'))*(zcS q2 (q2') q3 (q3')))) (zal rfl (S.at 0 rfl)) rfl rfl (by decide) (ls':=[(13,.int .i64 ((zcS q1 (q1') q2 (q2'))*(zcS q2 (q2') q3 (q3')))),(5,.pointer (some ⟨g3,0,none⟩)),(4,.pointer (some ⟨g2,0,none⟩)),(3,.pointer (some ⟨g1,0,none⟩))]) rfl (fun a S=>?_)
  refine hK2 _ _ ?_
  refine wp_ret ?_
  exact zaM rfl S (S.at 0 rfl) ⟨_,rfl,rfl,S.below⟩
theorem zq2 {Ka Kb Kc:Nat}{q1 q1' q2 q2' q3 q3':Rat}{v1 v2 v3:Value}{V:World}(T:TT V)(h1:P1 Ka (q1) (q1') v1 V)(h2:P1 Kb (q2) (q2') v2 V)(h3:P1 Kc (q3) (q3') v3 V)(hK1:Ka≤400)(hK2:Kb≤400)(hK3:Kc≤400)(hs0:Sm 250 (q2 - q1))(hs1:Sm 250 (q2' - q1'))(hs2:Sm 250 (q3 - q1))(hs3:Sm 250 (q3' - q1')):
  Calls Tryz.prog 15 #[v1,v2,v3] V (zao V (fun v _=>v= .bool (onR q1 q1' q2 q2' q3 q3'))):=by
 obtain⟨b1,x1,y1,b2,x2,y2,rfl,hq1,hq2,⟨hk1,hk2⟩,⟨hk3,hk4⟩,⟨ok1,ok2⟩,ok3,ok4⟩:=h1
 obtain⟨b3,x3,y3,b4,x4,y4,rfl,hq3,hq4,⟨hk5,hk6⟩,⟨hk7,hk8⟩,⟨ok5,ok6⟩,ok7,ok8⟩:=h2
 obtain⟨b5,x5,y5,b6,x6,y6,rfl,hq5,hq6,⟨hk9,hk10⟩,⟨hk11,hk12⟩,⟨ok9,ok10⟩,ok11,ok12⟩:=h3
 refine zaz (e:=[x5,y5,x6,y6,x3,y3,x4,y4,x1,y1,x2,y2]) Tryz.func15 rfl Tryz.ntmps15 (zsj rfl) [(0,.agg #[.bool b1,.slice x1.A x1.n x1.c,.slice y1.A y1.n y1.c,.bool b2,.slice x2.A x2.n x2.c,.slice y2.A y2.n y2.c]),(1,.agg #[.bool b3,.slice x3.A x3.n x3.c,.slice y3.A y3.n y3.c,.bool b4,.slice x4.A x4.n x4.c,.slice y4.A y4.n y4.c]),(2,.agg #[.bool b5,.slice x5.A x5.n x5.c,.slice y5.A y5.n y5.c,.bool b6,.slice x6.A x6.n x6.c,.slice y6.A y6.n y6.c])] rfl (zaa ok9 (zaa ok10 (zaa ok11 (zaa ok12 (zaa ok5 (zaa ok6 (zaa ok7 (zaa ok8 (zaa ok1 (zaa ok2 (zaa ok3 (zaa ok4 zaW)))))))))))) (fun a S=>?_)
 refine wp_seq_k fun K1 hK1=>?_
 refine zab ?_
 refine ti S (cs:=[.bool b1,.slice x1.A x1.n x1.c,.slice y1.A y1.n y1.c,.bool b2,.slice x2.A x2.n x2.c,.slice y2.A y2.n y2.c]) (zaB rfl (S.at 0 rfl) rfl) (fun g1=>[⟨g1,29,[.bool b1,.slice x1.A x1.n x1.c,.slice y1.A y1.n y1.c,.bool b2,.slice x2.A x2.n x2.c,.slice y2.A y2.n y2.c]⟩]) fun g1 a V1 hgg1 S=>?_
 refine ti S (cs:=[.bool b3,.slice x3.A x3.n x3.c,.slice y3.A y3.n y3.c,.bool b4,.slice x4.A x4.n x4.c,.slice y4.A y4.n y4.c]) (zaB rfl (S.at 2 rfl) rfl) (fun g2=>[⟨g1,29,[.bool b1,.slice x1.A x1.n x1.c,.slice y1.A y1.n y1.c,.bool b2,.slice x2.A x2.n x2.c,.slice y2.A y2.n y2.c]⟩,⟨g2,29,[.bool b3,.slice x3.A x3.n x3.c,.slice y3.A y3.n y3.c,.bool b4,.slice x4.A x4.n x4.c,.slice y4.A y4.n y4.c]⟩]) fun g2 a V2 hgg2 S=>?_
 refine ti S (cs:=[.bool b5,.slice x5.A x5.n x5.c,.slice y5.A y5.n y5.c,.bool b6,.slice x6.A x6.n x6.c,.slice y6.A y6.n y6.c]) (zaB rfl (S.at 4 rfl) rfl) (fun g3=>[⟨g1,29,[.bool b1,.slice x1.A x1.n x1.c,.slice y1.A y1.n y1.c,.bool b2,.slice x2.A x2.n x2.c,.slice y2.A y2.n y2.c]⟩,⟨g2,29,[.bool b3,.slice x3.A x3.n x3.c,.slice y3.A y3.n y3.c,.bool b4,.slice x4.A x4.n x4.c,.slice y4.A y4.n y4.c]⟩,⟨g3,29,[.bool b5,.slice x5.A x5.n x5.c,.slice y5.A y5.n y5.c,.bool b6,.slice x6.A x6.n x6.c,.slice y6.A y6.n y6.c]⟩]) fun g3 a V3 hgg3 S=>?_
 refine tv S (zaA rfl) fun a S=>?_
 refine hK1 _ _ ?_
 refine wp_seq_k fun K2 hK2=>?_
 rcases zst (decide (zaj (crs q1 q1' q2 q2' q3 q3') 0=0))with hs1_|hs1_
 ·skip
  refine zab ?_
  refine tv S (zad rfl (S.at 3 rfl) (S.bx 0 rfl) Tryz.underlying29 rfl (vs:=[.bool b1,.slice x1.A x1.n x1.c,.slice y1.A y1.n y1.c,.bool b2,.slice x2.A x2.n x2.c,.slice y2.A y2.n y2.c]) zam rfl) fun a S=>?_
  refine tv S (zad rfl (S.at 3 rfl) (S.bx 1 rfl) Tryz.underlying29 rfl (vs:=[.bool b3,.slice x3.A x3.n x3.c,.slice y3.A y3.n y3.c,.bool b4,.slice x4.A x4.n x4.c,.slice y4.A y4.n y4.c]) zam rfl) fun a S=>?_
  refine tv S (zad rfl (S.at 3 rfl) (S.bx 2 rfl) Tryz.underlying29 rfl (vs:=[.bool b5,.slice x5.A x5.n x5.c,.slice y5.A y5.n y5.c,.bool b6,.slice x6.A x6.n x6.c,.slice y6.A y6.n y6.c]) zam rfl) fun a S=>?_
  refine tc S (F:=(fun v _=>v= .int .i64 (zaj (crs q1 (q1') q2 (q2') q3 (q3')) 0))) (rc3 Tryz.func10 (S.at 2 rfl) (S.at 1 rfl) (S.at 0 rfl)) (zb3 (T.keep S.below) (show P1 Ka (q1) (q1') (.agg #[.bool b1,.slice x1.A x1.n x1.c,.slice y1.A y1.n y1.c,.bool b2,.slice x2.A x2.n x2.c,.slice y2.A y2.n y2.c]) _ from⟨b1,x1,y1,b2,x2,y2,rfl,hq1,hq2,⟨hk1,hk2⟩,⟨hk3,hk4⟩,⟨(S.num 8 rfl),(S.num 9 rfl)⟩,(S.num 10 rfl),(S.num 11 rfl)⟩) (show P1 Kb (q2) (q2') (.agg #[.bool b3,.slice x3.A x3.n x3.c,.slice y3.A y3.n y3.c,.bool b4,.slice x4.A x4.n x4.c,.slice y4.A y4.n y4.c]) _ from⟨b3,x3,y3,b4,x4,y4,rfl,hq3,hq4,⟨hk5,hk6⟩,⟨hk7,hk8⟩,⟨(S.num 4 rfl),(S.num 5 rfl)⟩,(S.num 6 rfl),(S.num 7 rfl)⟩) (show P1 Kc (q3) (q3') (.agg #[.bool b5,.slice x5.A x5.n x5.c,.slice y5.A y5.n y5.c,.bool b6,.slice x6.A x6.n x6.c,.slice y6.A y6.n y6.c]) _ from⟨b5,x5,y5,b6,x6,y6,rfl,hq5,hq6,⟨hk9,hk10⟩,⟨hk11,hk12⟩,⟨(S.num 0 rfl),(S.num 1 rfl)⟩,(S.num 2 rfl),(S.num 3 rfl)⟩) (by omega) (by omega) (by omega) (by assumption) (by assumption) (by assumption) (by assumption)) fun v a V4 hF hb S=>?_
  subst hF
  refine tv S (zaX (zbW _ (by decide) rfl (S.at 0 rfl) rfl) (show(decide (zaj (crs q1 (q1') q2 (q2') q3 (q3')) 0=0))=true from hs1_)) fun a S=>?_
  refine tv S (zac rfl (S.at 0 rfl)) fun a S=>?_
  refine tvg S (S.at 0 rfl) (zad rfl (S.at 9 rfl) (S.bx 0 rfl) Tryz.underlying29 rfl (vs:=[.bool b1,.slice x1.A x1.n x1.c,.slice y1.A y1.n y1.c,.bool b2,.slice x2.A x2.n x2.c,.slice y2.A y2.n y2.c]) zam rfl) fun a S=>?_
  refine tvg S (S.at 1 rfl) (zad rfl (S.at 8 rfl) (S.bx 2 rfl) Tryz.underlying29 rfl (vs:=[.bool b5,.slice x5.A x5.n x5.c,.slice y5.A y5.n y5.c,.bool b6,.slice x6.A x6.n x6.c,.slice y6.A y6.n y6.c]) zam rfl) fun a S=>?_
  refine tvg S (S.at 2 rfl) (zad rfl (S.at 10 rfl) (S.bx 1 rfl) Tryz.underlying29 rfl (vs:=[.bool b3,.slice x3.A x3.n x3.c,.slice y3.A y3.n y3.c,.bool b4,.slice x4.A x4.n x4.c,.slice y4.A y4.n y4.c]) zam rfl) fun a S=>?_
  refine tcg S (S.at 3 rfl) (F:=(fun v _=>v= .int .i64 (inRow q1 (q1') q3 (q3') q2 (q2')))) (rc3 Tryz.func44 (S.at 2 rfl) (S.at 1 rfl) (S.at 0 rfl)) (zh6 (T.keep S.below) (show P1 Ka (q1) (q1') (.agg #[.bool b1,.slice x1.A x1.n x1.c,.slice y1.A y1.n y1.c,.bool b2,.slice x2.A x2.n x2.c,.slice y2.A y2.n y2.c]) _ from⟨b1,x1,y1,b2,x2,y2,rfl,hq1,hq2,⟨hk1,hk2⟩,⟨hk3,hk4⟩,⟨(S.num 8 rfl),(S.num 9 rfl)⟩,(S.num 10 rfl),(S.num 11 rfl)⟩) (show P1 Kc (q3) (q3') (.agg #[.bool b5,.slice x5.A x5.n x5.c,.slice y5.A y5.n y5.c,.bool b6,.slice x6.A x6.n x6.c,.slice y6.A y6.n y6.c]) _ from⟨b5,x5,y5,b6,x6,y6,rfl,hq5,hq6,⟨hk9,hk10⟩,⟨hk11,hk12⟩,⟨(S.num 0 rfl),(S.num 1 rfl)⟩,(S.num 2 rfl),(S.num 3 rfl)⟩) (show P1 Kb (q2) (q2') (.agg #[.bool b3,.slice x3.A x3.n x3.c,.slice y3.A y3.n y3.c,.bool b4,.slice x4.A x4.n x4.c,.slice y4.A y4.n y4.c]) _ from⟨b3,x3,y3,b4,x4,y4,rfl,hq3,hq4,⟨hk5,hk6⟩,⟨hk7,hk8⟩,⟨(S.num 4 rfl),(S.num 5 rfl)⟩,(S.num 6 rfl),(S.num 7 rfl)⟩) (by omega) (by omega) (by omega)) fun v a V5 hF hb S=>?_
  subst hF
  refine tvg S (S.at 4 rfl) (zqH rfl (S.at 0 rfl) rfl) fun a S=>?_
  refine tv S (zaP true rfl (S.at 5 rfl) (S.at 0 rfl)) fun a S=>?_
  refine za9 S (v:= .bool (decide (0≤inRow q1 (q1') q3 (q3') q2 (q2')))) (zal rfl (S.at 0 rfl)) rfl rfl (by decide) (ls':=[(18,.bool (decide (0≤inRow q1 (q1') q3 (q3') q2 (q2')))),(17,.bool (decide (0≤inRow q1 (q1') q3 (q3') q2 (q2')))),(16,.int .i64 (inRow q1 (q1') q3 (q3') q2 (q2'))),(15,.agg #[.bool b3,.slice x3.A x3.n x3.c,.slice y3.A y3.n y3.c,.bool b4,.slice x4.A x4.n x4.c,.slice y4.A y4.n y4.c]),(14,.agg #[.bool b5,.slice x5.A x5.n x5.c,.slice y5.A y5.n y5.c,.bool b6,.slice x6.A x6.n x6.c,.slice y6.A y6.n y6.c]),(13,.agg #[.bool b1,.slice x1.A x1.n x1.c,.slice y1.A y1.n y1.c,.bool b2,.slice x2.A x2.n x2.c,.slice y2.A y2.n y2.c]),(12,.bool true),(11,.bool true),(10,.int .i64 (zaj (crs q1 (q1') q2 (q2') q3 (q3')) 0)),(9,.agg #[.bool b5,.slice x5.A x5.n x5.c,.slice y5.A y5.n y5.c,.bool b6,.slice x6.A x6.n x6.c,.slice y6.A y6.n y6.c]),(8,.agg #[.bool b3,.slice x3.A x3.n x3.c,.slice y3.A y3.n y3.c,.bool b4,.slice x4.A x4.n x4.c,.slice y4.A y4.n y4.c]),(7,.agg #[.bool b1,.slice x1.A x1.n x1.c,.slice y1.A y1.n y1.c,.bool b2,.slice x2.A x2.n x2.c,.slice y2.A y2.n y2.c]),(5,.pointer (some ⟨g3,0,none⟩)),(4,.pointer (some ⟨g2,0,none⟩)),(3,.pointer (some ⟨g1,0,none⟩)),(0,.agg #[.bool b1,.slice x1.A x1.n x1.c,.slice y1.A y1.n y1.c,.bool b2,.slice x2.A x2.n x2.c,.slice y2.A y2.n y2.c]),(1,.agg #[.bool b3,.slice x3.A x3.n x3.c,.slice y3.A y3.n y3.c,.bool b4,.slice x4.A x4.n x4.c,.slice y4.A y4.n y4.c]),(2,.agg #[.bool b5,.slice x5.A x5.n x5.c,.slice y5.A y5.n y5.c,.bool b6,.slice x6.A x6.n x6.c,.slice y6.A y6.n y6.c])]) rfl (fun a S=>?_)
  refine hK2 _ _ ?_
  refine wp_ret ?_
  exact zaM rfl S (S.at 0 rfl) ⟨_,rfl,congrArg Value.bool (zrH hs1_),S.below⟩
 ·skip
  refine zab ?_
  refine tv S (zad rfl (S.at 3 rfl) (S.bx 0 rfl) Tryz.underlying29 rfl (vs:=[.bool b1,.slice x1.A x1.n x1.c,.slice y1.A y1.n y1.c,.bool b2,.slice x2.A x2.n x2.c,.slice y2.A y2.n y2.c]) zam rfl) fun a S=>?_
  refine tv S (zad rfl (S.at 3 rfl) (S.bx 1 rfl) Tryz.underlying29 rfl (vs:=[.bool b3,.slice x3.A x3.n x3.c,.slice y3.A y3.n y3.c,.bool b4,.slice x4.A x4.n x4.c,.slice y4.A y4.n y4.c]) zam rfl) fun a S=>?_
  refine tv S (zad rfl (S.at 3 rfl) (S.bx 2 rfl) Tryz.underlying29 rfl (vs:=[.bool b5,.slice x5.A x5.n x5.c,.slice y5.A y5.n y5.c,.bool b6,.slice x6.A x6.n x6.c,.slice y6.A y6.n y6.c]) zam rfl) fun a S=>?_
  refine tc S (F:=(fun v _=>v= .int .i64 (zaj (crs q1 (q1') q2 (q2') q3 (q3')) 0))) (rc3 Tryz.func10 (S.at 2 rfl) (S.at 1 rfl) (S.at 0 rfl)) (zb3 (T.keep S.below) (show P1 Ka (q1) (q1') (.agg #[.bool b1,.slice x1.A x1.n x1.c,.slice y1.A y1.n y1.c,.bool b2,.slice x2.A x2.n x2.c,.slice y2.A y2.n y2.c]) _ from⟨b1,x1,y1,b2,x2,y2,rfl,hq1,hq2,⟨hk1,hk2⟩,⟨hk3,hk4⟩,⟨(S.num 8 rfl),(S.num 9 rfl)⟩,(S.num 10 rfl),(S.num 11 rfl)⟩) (show P1 Kb (q2) (q2') (.agg #[.bool b3,.slice x3.A x3.n x3.c,.slice y3.A y3.n y3.c,.bool b4,.slice x4.A x4.n x4.c,.slice y4.A y4.n y4.c]) _ from⟨b3,x3,y3,b4,x4,y4,rfl,hq3,hq4,⟨hk5,hk6⟩,⟨hk7,hk8⟩,⟨(S.num 4 rfl),(S.num 5 rfl)⟩,(S.num 6 rfl),(S.num 7 rfl)⟩) (show P1 Kc (q3) (q3') (.agg #[.bool b5,.slice x5.A x5.n x5.c,.slice y5.A y5.n y5.c,.bool b6,.slice x6.A x6.n x6.c,.slice y6.A y6.n y6.c]) _ from⟨b5,x5,y5,b6,x6,y6,rfl,hq5,hq6,⟨hk9,hk10⟩,⟨hk11,hk12⟩,⟨(S.num 0 rfl),(S.num 1 rfl)⟩,(S.num 2 rfl),(S.num 3 rfl)⟩) (by omega) (by omega) (by omega) (by assumption) (by assumption) (by assumption) (by assumption)) fun v a V6 hF hb S=>?_
  subst hF
  refine tv S (zaX (zbW _ (by decide) rfl (S.at 0 rfl) rfl) (show(decide (zaj (crs q1 (q1') q2 (q2') q3 (q3')) 0=0))=false from hs1_)) fun a S=>?_
  refine tv S (zac rfl (S.at 0 rfl)) fun a S=>?_
  refine tk S (S.at 0 rfl) fun a S=>?_
  refine tk S (S.at 1 rfl) fun a S=>?_
  refine tk S (S.at 2 rfl) fun a S=>?_
  refine tk S (S.at 3 rfl) fun a S=>?_
  refine tk S (S.at 4 rfl) fun a S=>?_
  refine tv S (zaP false rfl (S.at 5 rfl) rfl) fun a S=>?_
  refine za9 S (v:= .bool false) (zal rfl (S.at 0 rfl)) rfl rfl (by decide) (ls':=[(18,.bool false),(17,undef),(16,undef),(15,undef),(14,undef),(13,undef),(12,.bool false),(11,.bool false),(10,.int .i64 (zaj (crs q1 (q1') q2 (q2') q3 (q3')) 0)),(9,.agg #[.bool b5,.slice x5.A x5.n x5.c,.slice y5.A y5.n y5.c,.bool b6,.slice x6.A x6.n x6.c,.slice y6.A y6.n y6.c]),(8,.agg #[.bool b3,.slice x3.A x3.n x3.c,.slice y3.A y3.n y3.c,.bool b4,.slice x4.A x4.n x4.c,.slice y4.A y4.n y4.c]),(7,.agg #[.bool b1,.slice x1.A x1.n x1.c,.slice y1.A y1.n y1.c,.bool b2,.slice x2.A x2.n x2.c,.slice y2.A y2.n y2.c]),(5,.pointer (some ⟨g3,0,none⟩)),(4,.pointer (some ⟨g2,0,none⟩)),(3,.pointer (some ⟨g1,0,none⟩)),(0,.agg #[.bool b1,.slice x1.A x1.n x1.c,.slice y1.A y1.n y1.c,.bool b2,.slice x2.A x2.n x2.c,.slice y2.A y2.n y2.c]),(1,.agg #[.bool b3,.slice x3.A x3.n x3.c,.slice y3.A y3.n y3.c,.bool b4,.slice x4.A x4.n x4.c,.slice y4.A y4.n y4.c]),(2,.agg #[.bool b5,.slice x5.A x5.n x5.c,.slice y5.A y5.n y5.c,.bool b6,.slice x6.A x6.n x6.c,.slice y6.A y6.n y6.c])]) rfl (fun a S=>?_)
  refine hK2 _ _ ?_
  refine wp_ret ?_
  exact zaM rfl S (S.at 0 rfl) ⟨_,rfl,congrArg Value.bool (zrI hs1_),S.below⟩
theorem zjg {Ka Kb Kc:Nat}{q1 q1' q2 q2' q3 q3':Rat}{v1 v2 v3:Value}{V:World}(T:TT V)(h1:P1 Ka (q1) (q1') v1 V)(h2:P1 Kb (q2) (q2') v2 V)(h3:P1 Kc (q3) (q3') v3 V)(hK1:Ka≤400)(hK2:Kb≤400)(hK3:Kc≤400)(hs0:Sm 250 (q2 - q1))(hs1:Sm 250 (q2' - q1'))(hs2:Sm 250 (q3 - q1))(hs3:Sm 250 (q3' - q1')):
  Calls Tryz.prog 17 #[v1,v2,v3] V (zao V (fun v _=>v= .bool (zdr q1 q1' q2 q2' q3 q3'))):=by
 obtain⟨b1,x1,y1,b2,x2,y2,rfl,hq1,hq2,⟨hk1,hk2⟩,⟨hk3,hk4⟩,⟨ok1,ok2⟩,ok3,ok4⟩:=h1
 obtain⟨b3,x3,y3,b4,x4,y4,rfl,hq3,hq4,⟨hk5,hk6⟩,⟨hk7,hk8⟩,⟨ok5,ok6⟩,ok7,ok8⟩:=h2
 obtain⟨b5,x5,y5,b6,x6,y6,rfl,hq5,hq6,⟨hk9,hk10⟩,⟨hk11,hk12⟩,⟨ok9,ok10⟩,ok11,ok12⟩:=h3
 refine zaz (e:=[x5,y5,x6,y6,x3,y3,x4,y4,x1,y1,x2,y2]) Tryz.func17 rfl Tryz.ntmps17 (zsj rfl) [(0,.agg #[.bool b1,.slice x1.A x1.n x1.c,.slice y1.A y1.n y1.c,.bool b2,.slice x2.A x2.n x2.c,.slice y2.A y2.n y2.c]),(1,.agg #[.bool b3,.slice x3.A x3.n x3.c,.slice y3.A y3.n y3.c,.bool b4,.slice x4.A x4.n x4.c,.slice y4.A y4.n y4.c]),(2,.agg #[.bool b5,.slice x5.A x5.n x5.c,.slice y5.A y5.n y5.c,.bool b6,.slice x6.A x6.n x6.c,.slice y6.A y6.n y6.c])] rfl (zaa ok9 (zaa ok10 (zaa ok11 (zaa ok12 (zaa ok5 (zaa ok6 (zaa ok7 (zaa ok8 (zaa ok1 (zaa ok2 (zaa ok3 (zaa ok4 zaW)))))))))))) (fun a S=>?_)
 refine wp_seq_k fun K1 hK1=>?_
 refine zab ?_
 refine ti S (cs:=[.bool b1,.slice x1.A x1.n x1.c,.slice y1.A y1.n y1.c,.bool b2,.slice x2.A x2.n x2.c,.slice y2.A y2.n y2.c]) (zaB rfl (S.at 0 rfl) rfl) (fun g1=>[⟨g1,29,[.bool b1,.slice x1.A x1.n x1.c,.slice y1.A y1.n y1.c,.bool b2,.slice x2.A x2.n x2.c,.slice y2.A y2.n y2.c]⟩]) fun g1 a V1 hgg1 S=>?_
 refine ti S (cs:=[.bool b3,.slice x3.A x3.n x3.c,.slice y3.A y3.n y3.c,.bool b4,.slice x4.A x4.n x4.c,.slice y4.A y4.n y4.c]) (zaB rfl (S.at 2 rfl) rfl) (fun g2=>[⟨g1,29,[.bool b1,.slice x1.A x1.n x1.c,.slice y1.A y1.n y1.c,.bool b2,.slice x2.A x2.n x2.c,.slice y2.A y2.n y2.c]⟩,⟨g2,29,[.bool b3,.slice x3.A x3.n x3.c,.slice y3.A y3.n y3.c,.bool b4,.slice x4.A x4.n x4.c,.slice y4.A y4.n y4.c]⟩]) fun g2 a V2 hgg2 S=>?_
 refine ti S (cs:=[.bool b5,.slice x5.A x5.n x5.c,.slice y5.A y5.n y5.c,.bool b6,.slice x6.A x6.n x6.c,.slice y6.A y6.n y6.c]) (zaB rfl (S.at 4 rfl) rfl) (fun g3=>[⟨g1,29,[.bool b1,.slice x1.A x1.n x1.c,.slice y1.A y1.n y1.c,.bool b2,.slice x2.A x2.n x2.c,.slice y2.A y2.n y2.c]⟩,⟨g2,29,[.bool b3,.slice x3.A x3.n x3.c,.slice y3.A y3.n y3.c,.bool b4,.slice x4.A x4.n x4.c,.slice y4.A y4.n y4.c]⟩,⟨g3,29,[.bool b5,.slice x5.A x5.n x5.c,.slice y5.A y5.n y5.c,.bool b6,.slice x6.A x6.n x6.c,.slice y6.A y6.n y6.c]⟩]) fun g3 a V3 hgg3 S=>?_
 refine tv S (zaA rfl) fun a S=>?_
 refine hK1 _ _ ?_
 refine wp_seq_k fun K2 hK2=>?_
 rcases zst (decide (zaj (crs q1 q1' q2 q2' q3 q3') 0=0))with hs1_|hs1_
 ·skip
  refine zab ?_
  refine tv S (zad rfl (S.at 3 rfl) (S.bx 0 rfl) Tryz.underlying29 rfl (vs:=[.bool b1,.slice x1.A x1.n x1.c,.slice y1.A y1.n y1.c,.bool b2,.slice x2.A x2.n x2.c,.slice y2.A y2.n y2.c]) zam rfl) fun a S=>?_
  refine tv S (zad rfl (S.at 3 rfl) (S.bx 1 rfl) Tryz.underlying29 rfl (vs:=[.bool b3,.slice x3.A x3.n x3.c,.slice y3.A y3.n y3.c,.bool b4,.slice x4.A x4.n x4.c,.slice y4.A y4.n y4.c]) zam rfl) fun a S=>?_
  refine tv S (zad rfl (S.at 3 rfl) (S.bx 2 rfl) Tryz.underlying29 rfl (vs:=[.bool b5,.slice x5.A x5.n x5.c,.slice y5.A y5.n y5.c,.bool b6,.slice x6.A x6.n x6.c,.slice y6.A y6.n y6.c]) zam rfl) fun a S=>?_
  refine tc S (F:=(fun v _=>v= .int .i64 (zaj (crs q1 (q1') q2 (q2') q3 (q3')) 0))) (rc3 Tryz.func10 (S.at 2 rfl) (S.at 1 rfl) (S.at 0 rfl)) (zb3 (T.keep S.below) (show P1 Ka (q1) (q1') (.agg #[.bool b1,.slice x1.A x1.n x1.c,.slice y1.A y1.n y1.c,.bool b2,.slice x2.A x2.n x2.c,.slice y2.A y2.n y2.c]) _ from⟨b1,x1,y1,b2,x2,y2,rfl,hq1,hq2,⟨hk1,hk2⟩,⟨hk3,hk4⟩,⟨(S.num 8 rfl),(S.num 9 rfl)⟩,(S.num 10 rfl),(S.num 11 rfl)⟩) (show P1 Kb (q2) (q2') (.agg #[.bool b3,.slice x3.A x3.n x3.c,.slice y3.A y3.n y3.c,.bool b4,.slice x4.A x4.n x4.c,.slice y4.A y4.n y4.c]) _ from⟨b3,x3,y3,b4,x4,y4,rfl,hq3,hq4,⟨hk5,hk6⟩,⟨hk7,hk8⟩,⟨(S.num 4 rfl),(S.num 5 rfl)⟩,(S.num 6 rfl),(S.num 7 rfl)⟩) (show P1 Kc (q3) (q3') (.agg #[.bool b5,.slice x5.A x5.n x5.c,.slice y5.A y5.n y5.c,.bool b6,.slice x6.A x6.n x6.c,.slice y6.A y6.n y6.c]) _ from⟨b5,x5,y5,b6,x6,y6,rfl,hq5,hq6,⟨hk9,hk10⟩,⟨hk11,hk12⟩,⟨(S.num 0 rfl),(S.num 1 rfl)⟩,(S.num 2 rfl),(S.num 3 rfl)⟩) (by omega) (by omega) (by omega) (by assumption) (by assumption) (by assumption) (by assumption)) fun v a V4 hF hb S=>?_
  subst hF
  refine tv S (zaX (zbW _ (by decide) rfl (S.at 0 rfl) rfl) (show(decide (zaj (crs q1 (q1') q2 (q2') q3 (q3')) 0=0))=true from hs1_)) fun a S=>?_
  refine tv S (zac rfl (S.at 0 rfl)) fun a S=>?_
  refine tvg S (S.at 0 rfl) (zad rfl (S.at 9 rfl) (S.bx 0 rfl) Tryz.underlying29 rfl (vs:=[.bool b1,.slice x1.A x1.n x1.c,.slice y1.A y1.n y1.c,.bool b2,.slice x2.A x2.n x2.c,.slice y2.A y2.n y2.c]) zam rfl) fun a S=>?_
  refine tvg S (S.at 1 rfl) (zad rfl (S.at 8 rfl) (S.bx 2 rfl) Tryz.underlying29 rfl (vs:=[.bool b5,.slice x5.A x5.n x5.c,.slice y5.A y5.n y5.c,.bool b6,.slice x6.A x6.n x6.c,.slice y6.A y6.n y6.c]) zam rfl) fun a S=>?_
  refine tvg S (S.at 2 rfl) (zad rfl (S.at 10 rfl) (S.bx 1 rfl) Tryz.underlying29 rfl (vs:=[.bool b3,.slice x3.A x3.n x3.c,.slice y3.A y3.n y3.c,.bool b4,.slice x4.A x4.n x4.c,.slice y4.A y4.n y4.c]) zam rfl) fun a S=>?_
  refine tcg S (S.at 3 rfl) (F:=(fun v _=>v= .int .i64 (inRow q1 (q1') q3 (q3') q2 (q2')))) (rc3 Tryz.func44 (S.at 2 rfl) (S.at 1 rfl) (S.at 0 rfl)) (zh6 (T.keep S.below) (show P1 Ka (q1) (q1') (.agg #[.bool b1,.slice x1.A x1.n x1.c,.slice y1.A y1.n y1.c,.bool b2,.slice x2.A x2.n x2.c,.slice y2.A y2.n y2.c]) _ from⟨b1,x1,y1,b2,x2,y2,rfl,hq1,hq2,⟨hk1,hk2⟩,⟨hk3,hk4⟩,⟨(S.num 8 rfl),(S.num 9 rfl)⟩,(S.num 10 rfl),(S.num 11 rfl)⟩) (show P1 Kc (q3) (q3') (.agg #[.bool b5,.slice x5.A x5.n x5.c,.slice y5.A y5.n y5.c,.bool b6,.slice x6.A x6.n x6.c,.slice y6.A y6.n y6.c]) _ from⟨b5,x5,y5,b6,x6,y6,rfl,hq5,hq6,⟨hk9,hk10⟩,⟨hk11,hk12⟩,⟨(S.num 0 rfl),(S.num 1 rfl)⟩,(S.num 2 rfl),(S.num 3 rfl)⟩) (show P1 Kb (q2) (q2') (.agg #[.bool b3,.slice x3.A x3.n x3.c,.slice y3.A y3.n y3.c,.bool b4,.slice x4.A x4.n x4.c,.slice y4.A y4.n y4.c]) _ from⟨b3,x3,y3,b4,x4,y4,rfl,hq3,hq4,⟨hk5,hk6⟩,⟨hk7,hk8⟩,⟨(S.num 4 rfl),(S.num 5 rfl)⟩,(S.num 6 rfl),(S.num 7 rfl)⟩) (by omega) (by omega) (by omega)) fun v a V5 hF hb S=>?_
  subst hF
  refine tvg S (S.at 4 rfl) (zb9 rfl (S.at 0 rfl) rfl) fun a S=>?_
  refine tv S (zaP true rfl (S.at 5 rfl) (S.at 0 rfl)) fun a S=>?_
  refine za9 S (v:= .bool (decide (0<inRow q1 (q1') q3 (q3') q2 (q2')))) (zal rfl (S.at 0 rfl)) rfl rfl (by decide) (ls':=[(18,.bool (decide (0<inRow q1 (q1') q3 (q3') q2 (q2')))),(17,.bool (decide (0<inRow q1 (q1') q3 (q3') q2 (q2')))),(16,.int .i64 (inRow q1 (q1') q3 (q3') q2 (q2'))),(15,.agg #[.bool b3,.slice x3.A x3.n x3.c,.slice y3.A y3.n y3.c,.bool b4,.slice x4.A x4.n x4.c,.slice y4.A y4.n y4.c]),(14,.agg #[.bool b5,.slice x5.A x5.n x5.c,.slice y5.A y5.n y5.c,.bool b6,.slice x6.A x6.n x6.c,.slice y6.A y6.n y6.c]),(13,.agg #[.bool b1,.slice x1.A x1.n x1.c,.slice y1.A y1.n y1.c,.bool b2,.slice x2.A x2.n x2.c,.slice y2.A y2.n y2.c]),(12,.bool true),(11,.bool true),(10,.int .i64 (zaj (crs q1 (q1') q2 (q2') q3 (q3')) 0)),(9,.agg #[.bool b5,.slice x5.A x5.n x5.c,.slice y5.A y5.n y5.c,.bool b6,.slice x6.A x6.n x6.c,.slice y6.A y6.n y6.c]),(8,.agg #[.bool b3,.slice x3.A x3.n x3.c,.slice y3.A y3.n y3.c,.bool b4,.slice x4.A x4.n x4.c,.slice y4.A y4.n y4.c]),(7,.agg #[.bool b1,.slice x1.A x1.n x1.c,.slice y1.A y1.n y1.c,.bool b2,.slice x2.A x2.n x2.c,.slice y2.A y2.n y2.c]),(5,.pointer (some ⟨g3,0,none⟩)),(4,.pointer (some ⟨g2,0,none⟩)),(3,.pointer (some ⟨g1,0,none⟩)),(0,.agg #[.bool b1,.slice x1.A x1.n x1.c,.slice y1.A y1.n y1.c,.bool b2,.slice x2.A x2.n x2.c,.slice y2.A y2.n y2.c]),(1,.agg #[.bool b3,.slice x3.A x3.n x3.c,.slice y3.A y3.n y3.c,.bool b4,.slice x4.A x4.n x4.c,.slice y4.A y4.n y4.c]),(2,.agg #[.bool b5,.slice x5.A x5.n x5.c,.slice y5.A y5.n y5.c,.bool b6,.slice x6.A x6.n x6.c,.slice y6.A y6.n y6.c])]) rfl (fun a S=>?_)
  refine hK2 _ _ ?_
  refine wp_ret ?_
  exact zaM rfl S (S.at 0 rfl) ⟨_,rfl,congrArg Value.bool (zmn hs1_),S.below⟩
 ·skip
  refine zab ?_
  refine tv S (zad rfl (S.at 3 rfl) (S.bx 0 rfl) Tryz.underlying29 rfl (vs:=[.bool b1,.slice x1.A x1.n x1.c,.slice y1.A y1.n y1.c,.bool b2,.slice x2.A x2.n x2.c,.slice y2.A y2.n y2.c]) zam rfl) fun a S=>?_
  refine tv S (zad rfl (S.at 3 rfl) (S.bx 1 rfl) Tryz.underlying29 rfl (vs:=[.bool b3,.slice x3.A x3.n x3.c,.slice y3.A y3.n y3.c,.bool b4,.slice x4.A x4.n x4.c,.slice y4.A y4.n y4.c]) zam rfl) fun a S=>?_
  refine tv S (zad rfl (S.at 3 rfl) (S.bx 2 rfl) Tryz.underlying29 rfl (vs:=[.bool b5,.slice x5.A x5.n x5.c,.slice y5.A y5.n y5.c,.bool b6,.slice x6.A x6.n x6.c,.slice y6.A y6.n y6.c]) zam rfl) fun a S=>?_
  refine tc S (F:=(fun v _=>v= .int .i64 (zaj (crs q1 (q1') q2 (q2') q3 (q3')) 0))) (rc3 Tryz.func10 (S.at 2 rfl) (S.at 1 rfl) (S.at 0 rfl)) (zb3 (T.keep S.below) (show P1 Ka (q1) (q1') (.agg #[.bool b1,.slice x1.A x1.n x1.c,.slice y1.A y1.n y1.c,.bool b2,.slice x2.A x2.n x2.c,.slice y2.A y2.n y2.c]) _ from⟨b1,x1,y1,b2,x2,y2,rfl,hq1,hq2,⟨hk1,hk2⟩,⟨hk3,hk4⟩,⟨(S.num 8 rfl),(S.num 9 rfl)⟩,(S.num 10 rfl),(S.num 11 rfl)⟩) (show P1 Kb (q2) (q2') (.agg #[.bool b3,.slice x3.A x3.n x3.c,.slice y3.A y3.n y3.c,.bool b4,.slice x4.A x4.n x4.c,.slice y4.A y4.n y4.c]) _ from⟨b3,x3,y3,b4,x4,y4,rfl,hq3,hq4,⟨hk5,hk6⟩,⟨hk7,hk8⟩,⟨(S.num 4 rfl),(S.num 5 rfl)⟩,(S.num 6 rfl),(S.num 7 rfl)⟩) (show P1 Kc (q3) (q3') (.agg #[.bool b5,.slice x5.A x5.n x5.c,.slice y5.A y5.n y5.c,.bool b6,.slice x6.A x6.n x6.c,.slice y6.A y6.n y6.c]) _ from⟨b5,x5,y5,b6,x6,y6,rfl,hq5,hq6,⟨hk9,hk10⟩,⟨hk11,hk12⟩,⟨(S.num 0 rfl),(S.num 1 rfl)⟩,(S.num 2 rfl),(S.num 3 rfl)⟩) (by omega) (by omega) (by omega) (by assumption) (by assumption) (by assumption) (by assumption)) fun v a V6 hF hb S=>?_
  subst hF
  refine tv S (zaX (zbW _ (by decide) rfl (S.at 0 rfl) rfl) (show(decide (zaj (crs q1 (q1') q2 (q2') q3 (q3')) 0=0))=false from hs1_)) fun a S=>?_
  refine tv S (zac rfl (S.at 0 rfl)) fun a S=>?_
  refine tk S (S.at 0 rfl) fun a S=>?_
  refine tk S (S.at 1 rfl) fun a S=>?_
  refine tk S (S.at 2 rfl) fun a S=>?_
  refine tk S (S.at 3 rfl) fun a S=>?_
  refine tk S (S.at 4 rfl) fun a S=>?_
  refine tv S (zaP false rfl (S.at 5 rfl) rfl) fun a S=>?_
  refine za9 S (v:= .bool false) (zal rfl (S.at 0 rfl)) rfl rfl (by decide) (ls':=[(18,.bool false),(17,undef),(16,undef),(15,undef),(14,undef),(13,undef),(12,.bool false),(11,.bool false),(10,.int .i64 (zaj (crs q1 (q1') q2 (q2') q3 (q3')) 0)),(9,.agg #[.bool b5,.slice x5.A x5.n x5.c,.slice y5.A y5.n y5.c,.bool b6,.slice x6.A x6.n x6.c,.slice y6.A y6.n y6.c]),(8,.agg #[.bool b3,.slice x3.A x3.n x3.c,.slice y3.A y3.n y3.c,.bool b4,.slice x4.A x4.n x4.c,.slice y4.A y4.n y4.c]),(7,.agg #[.bool b1,.slice x1.A x1.n x1.c,.slice y1.A y1.n y1.c,.bool b2,.slice x2.A x2.n x2.c,.slice y2.A y2.n y2.c]),(5,.pointer (some ⟨g3,0,none⟩)),(4,.pointer (some ⟨g2,0,none⟩)),(3,.pointer (some ⟨g1,0,none⟩)),(0,.agg #[.bool b1,.slice x1.A x1.n x1.c,.slice y1.A y1.n y1.c,.bool b2,.slice x2.A x2.n x2.c,.slice y2.A y2.n y2.c]),(1,.agg #[.bool b3,.slice x3.A x3.n x3.c,.slice y3.A y3.n y3.c,.bool b4,.slice x4.A x4.n x4.c,.slice y4.A y4.n y4.c]),(2,.agg #[.bool b5,.slice x5.A x5.n x5.c,.slice y5.A y5.n y5.c,.bool b6,.slice x6.A x6.n x6.c,.slice y6.A y6.n y6.c])]) rfl (fun a S=>?_)
  refine hK2 _ _ ?_
  refine wp_ret ?_
  exact zaM rfl S (S.at 0 rfl) ⟨_,rfl,congrArg Value.bool (zmo hs1_),S.below⟩
theorem zkl {Ka Kb Kc:Nat}{q1 q1' q2 q2' q3 q3':Rat}{v1 v2 v3:Value}{V:World}(T:TT V)(h1:P1 Ka (q1) (q1') v1 V)(h2:P1 Kb (q2) (q2') v2 V)(h3:P1 Kc (q3) (q3') v3 V)(hK1:Ka≤400)(hK2:Kb≤400)(hK3:Kc≤400)(hs0:Sm 250 (q2 - q1))(hs1:Sm 250 (q2' - q1'))(hs2:Sm 250 (q3 - q1))(hs3:Sm 250 (q3' - q1')):
  Calls Tryz.prog 19 #[v1,v2,v3] V (zao V (fun v _=>v= .bool (zcL q1 q1' q2 q2' q3 q3'))):=by
 obtain⟨b1,x1,y1,b2,x2,y2,rfl,hq1,hq2,⟨hk1,hk2⟩,⟨hk3,hk4⟩,⟨ok1,ok2⟩,ok3,ok4⟩:=h1
 obtain⟨b3,x3,y3,b4,x4,y4,rfl,hq3,hq4,⟨hk5,hk6⟩,⟨hk7,hk8⟩,⟨ok5,ok6⟩,ok7,ok8⟩:=h2
 obtain⟨b5,x5,y5,b6,x6,y6,rfl,hq5,hq6,⟨hk9,hk10⟩,⟨hk11,hk12⟩,⟨ok9,ok10⟩,ok11,ok12⟩:=h3
 refine zaz (e:=[x5,y5,x6,y6,x3,y3,x4,y4,x1,y1,x2,y2]) Tryz.func19 rfl Tryz.ntmps19 (zsj rfl) [(0,.agg #[.bool b1,.slice x1.A x1.n x1.c,.slice y1.A y1.n y1.c,.bool b2,.slice x2.A x2.n x2.c,.slice y2.A y2.n y2.c]),(1,.agg #[.bool b3,.slice x3.A x3.n x3.c,.slice y3.A y3.n y3.c,.bool b4,.slice x4.A x4.n x4.c,.slice y4.A y4.n y4.c]),(2,.agg #[.bool b5,.slice x5.A x5.n x5.c,.slice y5.A y5.n y5.c,.bool b6,.slice x6.A x6.n x6.c,.slice y6.A y6.n y6.c])] rfl (zaa ok9 (zaa ok10 (zaa ok11 (zaa ok12 (zaa ok5 (zaa ok6 (zaa ok7 (zaa ok8 (zaa ok1 (zaa ok2 (zaa ok3 (zaa ok4 zaW)))))))))))) (fun a S=>?_)
 refine wp_seq_k fun K1 hK1=>?_
 refine zab ?_
 refine ti S (cs:=[.bool b1,.slice x1.A x1.n x1.c,.slice y1.A y1.n y1.c,.bool b2,.slice x2.A x2.n x2.c,.slice y2.A y2.n y2.c]) (zaB rfl (S.at 0 rfl) rfl) (fun g1=>[⟨g1,29,[.bool b1,.slice x1.A x1.n x1.c,.slice y1.A y1.n y1.c,.bool b2,.slice x2.A x2.n x2.c,.slice y2.A y2.n y2.c]⟩]) fun g1 a V1 hgg1 S=>?_
 refine ti S (cs:=[.bool b3,.slice x3.A x3.n x3.c,.slice y3.A y3.n y3.c,.bool b4,.slice x4.A x4.n x4.c,.slice y4.A y4.n y4.c]) (zaB rfl (S.at 2 rfl) rfl) (fun g2=>[⟨g1,29,[.bool b1,.slice x1.A x1.n x1.c,.slice y1.A y1.n y1.c,.bool b2,.slice x2.A x2.n x2.c,.slice y2.A y2.n y2.c]⟩,⟨g2,29,[.bool b3,.slice x3.A x3.n x3.c,.slice y3.A y3.n y3.c,.bool b4,.slice x4.A x4.n x4.c,.slice y4.A y4.n y4.c]⟩]) fun g2 a V2 hgg2 S=>?_
 refine ti S (cs:=[.bool b5,.slice x5.A x5.n x5.c,.slice y5.A y5.n y5.c,.bool b6,.slice x6.A x6.n x6.c,.slice y6.A y6.n y6.c]) (zaB rfl (S.at 4 rfl) rfl) (fun g3=>[⟨g1,29,[.bool b1,.slice x1.A x1.n x1.c,.slice y1.A y1.n y1.c,.bool b2,.slice x2.A x2.n x2.c,.slice y2.A y2.n y2.c]⟩,⟨g2,29,[.bool b3,.slice x3.A x3.n x3.c,.slice y3.A y3.n y3.c,.bool b4,.slice x4.A x4.n x4.c,.slice y4.A y4.n y4.c]⟩,⟨g3,29,[.bool b5,.slice x5.A x5.n x5.c,.slice y5.A y5.n y5.c,.bool b6,.slice x6.A x6.n x6.c,.slice y6.A y6.n y6.c]⟩]) fun g3 a V3 hgg3 S=>?_
 refine tv S (zaA rfl) fun a S=>?_
 refine hK1 _ _ ?_
 refine wp_seq_k fun K2 hK2=>?_
 rcases zst (decide (zaj (crs q1 q1' q2 q2' q3 q3') 0=0))with hs1_|hs1_
 ·skip
  refine zab ?_
  refine tv S (zad rfl (S.at 3 rfl) (S.bx 0 rfl) Tryz.underlying29 rfl (vs:=[.bool b1,.slice x1.A x1.n x1.c,.slice y1.A y1.n y1.c,.bool b2,.slice x2.A x2.n x2.c,.slice y2.A y2.n y2.c]) zam rfl) fun a S=>?_
  refine tv S (zad rfl (S.at 3 rfl) (S.bx 1 rfl) Tryz.underlying29 rfl (vs:=[.bool b3,.slice x3.A x3.n x3.c,.slice y3.A y3.n y3.c,.bool b4,.slice x4.A x4.n x4.c,.slice y4.A y4.n y4.c]) zam rfl) fun a S=>?_
  refine tv S (zad rfl (S.at 3 rfl) (S.bx 2 rfl) Tryz.underlying29 rfl (vs:=[.bool b5,.slice x5.A x5.n x5.c,.slice y5.A y5.n y5.c,.bool b6,.slice x6.A x6.n x6.c,.slice y6.A y6.n y6.c]) zam rfl) fun a S=>?_
  refine tc S (F:=(fun v _=>v= .int .i64 (zaj (crs q1 (q1') q2 (q2') q3 (q3')) 0))) (rc3 Tryz.func10 (S.at 2 rfl) (S.at 1 rfl) (S.at 0 rfl)) (zb3 (T.keep S.below) (show P1 Ka (q1) (q1') (.agg #[.bool b1,.slice x1.A x1.n x1.c,.slice y1.A y1.n y1.c,.bool b2,.slice x2.A x2.n x2.c,.slice y2.A y2.n y2.c]) _ from⟨b1,x1,y1,b2,x2,y2,rfl,hq1,hq2,⟨hk1,hk2⟩,⟨hk3,hk4⟩,⟨(S.num 8 rfl),(S.num 9 rfl)⟩,(S.num 10 rfl),(S.num 11 rfl)⟩) (show P1 Kb (q2) (q2') (.agg #[.bool b3,.slice x3.A x3.n x3.c,.slice y3.A y3.n y3.c,.bool b4,.slice x4.A x4.n x4.c,.slice y4.A y4.n y4.c]) _ from⟨b3,x3,y3,b4,x4,y4,rfl,hq3,hq4,⟨hk5,hk6⟩,⟨hk7,hk8⟩,⟨(S.num 4 rfl),(S.num 5 rfl)⟩,(S.num 6 rfl),(S.num 7 rfl)⟩) (show P1 Kc (q3) (q3') (.agg #[.bool b5,.slice x5.A x5.n x5.c,.slice y5.A y5.n y5.c,.bool b6,.slice x6.A x6.n x6.c,.slice y6.A y6.n y6.c]) _ from⟨b5,x5,y5,b6,x6,y6,rfl,hq5,hq6,⟨hk9,hk10⟩,⟨hk11,hk12⟩,⟨(S.num 0 rfl),(S.num 1 rfl)⟩,(S.num 2 rfl),(S.num 3 rfl)⟩) (by omega) (by omega) (by omega) (by assumption) (by assumption) (by assumption) (by assumption)) fun v a V4 hF hb S=>?_
  subst hF
  refine tv S (zaX (zbW _ (by decide) rfl (S.at 0 rfl) rfl) (show(decide (zaj (crs q1 (q1') q2 (q2') q3 (q3')) 0=0))=true from hs1_)) fun a S=>?_
  refine tv S (zac rfl (S.at 0 rfl)) fun a S=>?_
  refine tvg S (S.at 0 rfl) (zad rfl (S.at 9 rfl) (S.bx 0 rfl) Tryz.underlying29 rfl (vs:=[.bool b1,.slice x1.A x1.n x1.c,.slice y1.A y1.n y1.c,.bool b2,.slice x2.A x2.n x2.c,.slice y2.A y2.n y2.c]) zam rfl) fun a S=>?_
  refine tvg S (S.at 1 rfl) (zad rfl (S.at 9 rfl) (S.bx 1 rfl) Tryz.underlying29 rfl (vs:=[.bool b3,.slice x3.A x3.n x3.c,.slice y3.A y3.n y3.c,.bool b4,.slice x4.A x4.n x4.c,.slice y4.A y4.n y4.c]) zam rfl) fun a S=>?_
  refine tvg S (S.at 2 rfl) (zad rfl (S.at 9 rfl) (S.bx 2 rfl) Tryz.underlying29 rfl (vs:=[.bool b5,.slice x5.A x5.n x5.c,.slice y5.A y5.n y5.c,.bool b6,.slice x6.A x6.n x6.c,.slice y6.A y6.n y6.c]) zam rfl) fun a S=>?_
  refine tcg S (S.at 3 rfl) (F:=(fun v _=>v= .int .i64 (inRow q1 (q1') q2 (q2') q3 (q3')))) (rc3 Tryz.func44 (S.at 2 rfl) (S.at 1 rfl) (S.at 0 rfl)) (zh6 (T.keep S.below) (show P1 Ka (q1) (q1') (.agg #[.bool b1,.slice x1.A x1.n x1.c,.slice y1.A y1.n y1.c,.bool b2,.slice x2.A x2.n x2.c,.slice y2.A y2.n y2.c]) _ from⟨b1,x1,y1,b2,x2,y2,rfl,hq1,hq2,⟨hk1,hk2⟩,⟨hk3,hk4⟩,⟨(S.num 8 rfl),(S.num 9 rfl)⟩,(S.num 10 rfl),(S.num 11 rfl)⟩) (show P1 Kb (q2) (q2') (.agg #[.bool b3,.slice x3.A x3.n x3.c,.slice y3.A y3.n y3.c,.bool b4,.slice x4.A x4.n x4.c,.slice y4.A y4.n y4.c]) _ from⟨b3,x3,y3,b4,x4,y4,rfl,hq3,hq4,⟨hk5,hk6⟩,⟨hk7,hk8⟩,⟨(S.num 4 rfl),(S.num 5 rfl)⟩,(S.num 6 rfl),(S.num 7 rfl)⟩) (show P1 Kc (q3) (q3') (.agg #[.bool b5,.slice x5.A x5.n x5.c,.slice y5.A y5.n y5.c,.bool b6,.slice x6.A x6.n x6.c,.slice y6.A y6.n y6.c]) _ from⟨b5,x5,y5,b6,x6,y6,rfl,hq5,hq6,⟨hk9,hk10⟩,⟨hk11,hk12⟩,⟨(S.num 0 rfl),(S.num 1 rfl)⟩,(S.num 2 rfl),(S.num 3 rfl)⟩) (by omega) (by omega) (by omega)) fun v a V5 hF hb S=>?_
  subst hF
  refine tvg S (S.at 4 rfl) (zb9 rfl (S.at 0 rfl) rfl) fun a S=>?_
  refine tv S (zaP true rfl (S.at 5 rfl) (S.at 0 rfl)) fun a S=>?_
  refine za9 S (v:= .bool (decide (0<inRow q1 (q1') q2 (q2') q3 (q3')))) (zal rfl (S.at 0 rfl)) rfl rfl (by decide) (ls':=[(18,.bool (decide (0<inRow q1 (q1') q2 (q2') q3 (q3')))),(17,.bool (decide (0<inRow q1 (q1') q2 (q2') q3 (q3')))),(16,.int .i64 (inRow q1 (q1') q2 (q2') q3 (q3'))),(15,.agg #[.bool b5,.slice x5.A x5.n x5.c,.slice y5.A y5.n y5.c,.bool b6,.slice x6.A x6.n x6.c,.slice y6.A y6.n y6.c]),(14,.agg #[.bool b3,.slice x3.A x3.n x3.c,.slice y3.A y3.n y3.c,.bool b4,.slice x4.A x4.n x4.c,.slice y4.A y4.n y4.c]),(13,.agg #[.bool b1,.slice x1.A x1.n x1.c,.slice y1.A y1.n y1.c,.bool b2,.slice x2.A x2.n x2.c,.slice y2.A y2.n y2.c]),(12,.bool true),(11,.bool true),(10,.int .i64 (zaj (crs q1 (q1') q2 (q2') q3 (q3')) 0)),(9,.agg #[.bool b5,.slice x5.A x5.n x5.c,.slice y5.A y5.n y5.c,.bool b6,.slice x6.A x6.n x6.c,.slice y6.A y6.n y6.c]),(8,.agg #[.bool b3,.slice x3.A x3.n x3.c,.slice y3.A y3.n y3.c,.bool b4,.slice x4.A x4.n x4.c,.slice y4.A y4.n y4.c]),(7,.agg #[.bool b1,.slice x1.A x1.n x1.c,.slice y1.A y1.n y1.c,.bool b2,.slice x2.A x2.n x2.c,.slice y2.A y2.n y2.c]),(5,.pointer (some ⟨g3,0,none⟩)),(4,.pointer (some ⟨g2,0,none⟩)),(3,.pointer (some ⟨g1,0,none⟩)),(0,.agg #[.bool b1,.slice x1.A x1.n x1.c,.slice y1.A y1.n y1.c,.bool b2,.slice x2.A x2.n x2.c,.slice y2.A y2.n y2.c]),(1,.agg #[.bool b3,.slice x3.A x3.n x3.c,.slice y3.A y3.n y3.c,.bool b4,.slice x4.A x4.n x4.c,.slice y4.A y4.n y4.c]),(2,.agg #[.bool b5,.slice x5.A x5.n x5.c,.slice y5.A y5.n y5.c,.bool b6,.slice x6.A x6.n x6.c,.slice y6.A y6.n y6.c])]) rfl (fun a S=>?_)
  refine hK2 _ _ ?_
  refine wp_ret ?_
  exact zaM rfl S (S.at 0 rfl) ⟨_,rfl,congrArg Value.bool (zje hs1_),S.below⟩
 ·skip
  refine zab ?_
  refine tv S (zad rfl (S.at 3 rfl) (S.bx 0 rfl) Tryz.underlying29 rfl (vs:=[.bool b1,.slice x1.A x1.n x1.c,.slice y1.A y1.n y1.c,.bool b2,.slice x2.A x2.n x2.c,.slice y2.A y2.n y2.c]) zam rfl) fun a S=>?_
  refine tv S (zad rfl (S.at 3 rfl) (S.bx 1 rfl) Tryz.underlying29 rfl (vs:=[.bool b3,.slice x3.A x3.n x3.c,.slice y3.A y3.n y3.c,.bool b4,.slice x4.A x4.n x4.c,.slice y4.A y4.n y4.c]) zam rfl) fun a S=>?_
  refine tv S (zad rfl (S.at 3 rfl) (S.bx 2 rfl) Tryz.underlying29 rfl (vs:=[.bool b5,.slice x5.A x5.n x5.c,.slice y5.A y5.n y5.c,.bool b6,.slice x6.A x6.n x6.c,.slice y6.A y6.n y6.c]) zam rfl) fun a S=>?_
  refine tc S (F:=(fun v _=>v= .int .i64 (zaj (crs q1 (q1') q2 (q2') q3 (q3')) 0))) (rc3 Tryz.func10 (S.at 2 rfl) (S.at 1 rfl) (S.at 0 rfl)) (zb3 (T.keep S.below) (show P1 Ka (q1) (q1') (.agg #[.bool b1,.slice x1.A x1.n x1.c,.slice y1.A y1.n y1.c,.bool b2,.slice x2.A x2.n x2.c,.slice y2.A y2.n y2.c]) _ from⟨b1,x1,y1,b2,x2,y2,rfl,hq1,hq2,⟨hk1,hk2⟩,⟨hk3,hk4⟩,⟨(S.num 8 rfl),(S.num 9 rfl)⟩,(S.num 10 rfl),(S.num 11 rfl)⟩) (show P1 Kb (q2) (q2') (.agg #[.bool b3,.slice x3.A x3.n x3.c,.slice y3.A y3.n y3.c,.bool b4,.slice x4.A x4.n x4.c,.slice y4.A y4.n y4.c]) _ from⟨b3,x3,y3,b4,x4,y4,rfl,hq3,hq4,⟨hk5,hk6⟩,⟨hk7,hk8⟩,⟨(S.num 4 rfl),(S.num 5 rfl)⟩,(S.num 6 rfl),(S.num 7 rfl)⟩) (show P1 Kc (q3) (q3') (.agg #[.bool b5,.slice x5.A x5.n x5.c,.slice y5.A y5.n y5.c,.bool b6,.slice x6.A x6.n x6.c,.slice y6.A y6.n y6.c]) _ from⟨b5,x5,y5,b6,x6,y6,rfl,hq5,hq6,⟨hk9,hk10⟩,⟨hk11,hk12⟩,⟨(S.num 0 rfl),(S.num 1 rfl)⟩,(S.num 2 rfl),(S.num 3 rfl)⟩) (by omega) (by omega) (by omega) (by assumption) (by assumption) (by assumption) (by assumption)) fun v a V6 hF hb S=>?_
  subst hF
  refine tv S (zaX (zbW _ (by decide) rfl (S.at 0 rfl) rfl) (show(decide (zaj (crs q1 (q1') q2 (q2') q3 (q3')) 0=0))=false from hs1_)) fun a S=>?_
  refine tv S (zac rfl (S.at 0 rfl)) fun a S=>?_
  refine tk S (S.at 0 rfl) fun a S=>?_
  refine tk S (S.at 1 rfl) fun a S=>?_
  refine tk S (S.at 2 rfl) fun a S=>?_
  refine tk S (S.at 3 rfl) fun a S=>?_
  refine tk S (S.at 4 rfl) fun a S=>?_
  refine tv S (zaP false rfl (S.at 5 rfl) rfl) fun a S=>?_
  refine za9 S (v:= .bool false) (zal rfl (S.at 0 rfl)) rfl rfl (by decide) (ls':=[(18,.bool false),(17,undef),(16,undef),(15,undef),(14,undef),(13,undef),(12,.bool false),(11,.bool false),(10,.int .i64 (zaj (crs q1 (q1') q2 (q2') q3 (q3')) 0)),(9,.agg #[.bool b5,.slice x5.A x5.n x5.c,.slice y5.A y5.n y5.c,.bool b6,.slice x6.A x6.n x6.c,.slice y6.A y6.n y6.c]),(8,.agg #[.bool b3,.slice x3.A x3.n x3.c,.slice y3.A y3.n y3.c,.bool b4,.slice x4.A x4.n x4.c,.slice y4.A y4.n y4.c]),(7,.agg #[.bool b1,.slice x1.A x1.n x1.c,.slice y1.A y1.n y1.c,.bool b2,.slice x2.A x2.n x2.c,.slice y2.A y2.n y2.c]),(5,.pointer (some ⟨g3,0,none⟩)),(4,.pointer (some ⟨g2,0,none⟩)),(3,.pointer (some ⟨g1,0,none⟩)),(0,.agg #[.bool b1,.slice x1.A x1.n x1.c,.slice y1.A y1.n y1.c,.bool b2,.slice x2.A x2.n x2.c,.slice y2.A y2.n y2.c]),(1,.agg #[.bool b3,.slice x3.A x3.n x3.c,.slice y3.A y3.n y3.c,.bool b4,.slice x4.A x4.n x4.c,.slice y4.A y4.n y4.c]),(2,.agg #[.bool b5,.slice x5.A x5.n x5.c,.slice y5.A y5.n y5.c,.bool b6,.slice x6.A x6.n x6.c,.slice y6.A y6.n y6.c])]) rfl (fun a S=>?_)
  refine hK2 _ _ ?_
  refine wp_ret ?_
  exact zaM rfl S (S.at 0 rfl) ⟨_,rfl,congrArg Value.bool (zjf hs1_),S.below⟩
theorem zq3 {Ka Kb Kc:Nat}{q1 q1' q2 q2' q3 q3':Rat}{b1_ b1b_:Bool}{x1_ y1_ x1b_ y1b_:Num}{b2_ b2b_:Bool}{x2_ y2_ x2b_ y2b_:Num}{b3_ b3b_:Bool}{x3_ y3_ x3b_ y3b_:Num}{V:World}(T:TT V)(hq1:qOf b1_ x1_.N y1_.N=q1)(hq1':qOf b1b_ x1b_.N y1b_.N=q1')(hx1:x1_.n≤Ka)(hy1:y1_.n≤Ka)(hx1':x1b_.n≤Ka)(hy1':y1b_.n≤Ka)(ox1:x1_.ok V V.heap.size)(oy1:y1_.ok V V.heap.size)(ox1':x1b_.ok V V.heap.size)(oy1':y1b_.ok V V.heap.size)(hq2:qOf b2_ x2_.N y2_.N=q2)(hq2':qOf b2b_ x2b_.N y2b_.N=q2')(hx2:x2_.n≤Kb)(hy2:y2_.n≤Kb)(hx2':x2b_.n≤Kb)(hy2':y2b_.n≤Kb)(ox2:x2_.ok V V.heap.size)(oy2:y2_.ok V V.heap.size)(ox2':x2b_.ok V V.heap.size)(oy2':y2b_.ok V V.heap.size)(hq3:qOf b3_ x3_.N y3_.N=q3)(hq3':qOf b3b_ x3b_.N y3b_.N=q3')(hx3:x3_.n≤Kc)(hy3:y3_.n≤Kc)(hx3':x3b_.n≤Kc)(hy3':y3b_.n≤Kc)(ox3:x3_.ok V V.heap.size)(oy3:y3_.ok V V.heap.size)(ox3':x3b_.ok V V.heap.size)(oy3':y3b_.ok V V.heap.size)(hK1:Ka≤400)(hK2:Kb≤400)(hK3:Kc≤400)(hs0:Sm 250 (q2 - q1))(hs1:Sm 250 (q2' - q1'))(hs2:Sm 250 (q3 - q1))(hs3:Sm 250 (q3' - q1')):
  Calls Tryz.prog 43 #[.agg #[.bool b1_,.slice x1_.A x1_.n x1_.c,.slice y1_.A y1_.n y1_.c,.bool b1b_,.slice x1b_.A x1b_.n x1b_.c,.slice y1b_.A y1b_.n y1b_.c,.bool b2_,.slice x2_.A x2_.n x2_.c,.slice y2_.A y2_.n y2_.c,.bool b2b_,.slice x2b_.A x2b_.n x2b_.c,.slice y2b_.A y2b_.n y2b_.c,.bool b3_,.slice x3_.A x3_.n x3_.c,.slice y3_.A y3_.n y3_.c,.bool b3b_,.slice x3b_.A x3b_.n x3b_.c,.slice y3b_.A y3b_.n y3b_.c]] V (zao V (fun v _=>v= .int .i64 (zaj (crs q1 q1' q2 q2' q3 q3') 0))):=by
 refine zaz (e:=[x3_,y3_,x3b_,y3b_,x2_,y2_,x2b_,y2b_,x1_,y1_,x1b_,y1b_]) Tryz.func43 rfl Tryz.ntmps43 (zsj rfl) [(0,.agg #[.bool b1_,.slice x1_.A x1_.n x1_.c,.slice y1_.A y1_.n y1_.c,.bool b1b_,.slice x1b_.A x1b_.n x1b_.c,.slice y1b_.A y1b_.n y1b_.c,.bool b2_,.slice x2_.A x2_.n x2_.c,.slice y2_.A y2_.n y2_.c,.bool b2b_,.slice x2b_.A x2b_.n x2b_.c,.slice y2b_.A y2b_.n y2b_.c,.bool b3_,.slice x3_.A x3_.n x3_.c,.slice y3_.A y3_.n y3_.c,.bool b3b_,.slice x3b_.A x3b_.n x3b_.c,.slice y3b_.A y3b_.n y3b_.c])] rfl (zaa ox3 (zaa oy3 (zaa ox3' (zaa oy3' (zaa ox2 (zaa oy2 (zaa ox2' (zaa oy2' (zaa ox1 (zaa oy1 (zaa ox1' (zaa oy1' zaW)))))))))))) (fun a S=>?_)
 refine wp_seq_k fun K1 hK1=>?_
 refine zab ?_
 refine ti S (cs:=[.bool b1_,.slice x1_.A x1_.n x1_.c,.slice y1_.A y1_.n y1_.c,.bool b1b_,.slice x1b_.A x1b_.n x1b_.c,.slice y1b_.A y1b_.n y1b_.c,.bool b2_,.slice x2_.A x2_.n x2_.c,.slice y2_.A y2_.n y2_.c,.bool b2b_,.slice x2b_.A x2b_.n x2b_.c,.slice y2b_.A y2b_.n y2b_.c,.bool b3_,.slice x3_.A x3_.n x3_.c,.slice y3_.A y3_.n y3_.c,.bool b3b_,.slice x3b_.A x3b_.n x3b_.c,.slice y3b_.A y3b_.n y3b_.c]) (zaB rfl (S.at 0 rfl) rfl) (fun g1=>[⟨g1,62,[.bool b1_,.slice x1_.A x1_.n x1_.c,.slice y1_.A y1_.n y1_.c,.bool b1b_,.slice x1b_.A x1b_.n x1b_.c,.slice y1b_.A y1b_.n y1b_.c,.bool b2_,.slice x2_.A x2_.n x2_.c,.slice y2_.A y2_.n y2_.c,.bool b2b_,.slice x2b_.A x2b_.n x2b_.c,.slice y2b_.A y2b_.n y2b_.c,.bool b3_,.slice x3_.A x3_.n x3_.c,.slice y3_.A y3_.n y3_.c,.bool b3b_,.slice x3b_.A x3b_.n x3b_.c,.slice y3b_.A y3b_.n y3b_.c]⟩]) fun g1 a V1 hgg1 S=>?_
 refine tv S (zaA rfl) fun a S=>?_
 refine hK1 _ _ ?_
 refine wp_seq_k fun K2 hK2=>?_
 refine zab ?_
 refine tv S (zoo rfl (S.at 1 rfl)) fun a S=>?_
 refine tv S (zad rfl (S.at 0 rfl) (S.bx 0 rfl) Tryz.underlying29 rfl (vs:=[.bool b1_,.slice x1_.A x1_.n x1_.c,.slice y1_.A y1_.n y1_.c,.bool b1b_,.slice x1b_.A x1b_.n x1b_.c,.slice y1b_.A y1b_.n y1b_.c]) zam rfl) fun a S=>?_
 refine tv S (zop rfl (S.at 3 rfl)) fun a S=>?_
 refine tv S (zad rfl (S.at 0 rfl) (S.bx 0 rfl) Tryz.underlying29 rfl (vs:=[.bool b2_,.slice x2_.A x2_.n x2_.c,.slice y2_.A y2_.n y2_.c,.bool b2b_,.slice x2b_.A x2b_.n x2b_.c,.slice y2b_.A y2b_.n y2b_.c]) zam rfl) fun a S=>?_
 refine tv S (zoq rfl (S.at 5 rfl)) fun a S=>?_
 refine tv S (zad rfl (S.at 0 rfl) (S.bx 0 rfl) Tryz.underlying29 rfl (vs:=[.bool b3_,.slice x3_.A x3_.n x3_.c,.slice y3_.A y3_.n y3_.c,.bool b3b_,.slice x3b_.A x3b_.n x3b_.c,.slice y3b_.A y3b_.n y3b_.c]) zam rfl) fun a S=>?_
 refine tc S (F:=(fun v _=>v= .int .i64 (zaj (crs q1 (q1') q2 (q2') q3 (q3')) 0))) (rc3 Tryz.func10 (S.at 4 rfl) (S.at 2 rfl) (S.at 0 rfl)) (zb3 (T.keep S.below) (show P1 Ka (q1) (q1') (.agg #[.bool b1_,.slice x1_.A x1_.n x1_.c,.slice y1_.A y1_.n y1_.c,.bool b1b_,.slice x1b_.A x1b_.n x1b_.c,.slice y1b_.A y1b_.n y1b_.c]) _ from⟨b1_,x1_,y1_,b1b_,x1b_,y1b_,rfl,hq1,hq1',⟨hx1,hy1⟩,⟨hx1',hy1'⟩,⟨(S.num 8 rfl),(S.num 9 rfl)⟩,(S.num 10 rfl),(S.num 11 rfl)⟩) (show P1 Kb (q2) (q2') (.agg #[.bool b2_,.slice x2_.A x2_.n x2_.c,.slice y2_.A y2_.n y2_.c,.bool b2b_,.slice x2b_.A x2b_.n x2b_.c,.slice y2b_.A y2b_.n y2b_.c]) _ from⟨b2_,x2_,y2_,b2b_,x2b_,y2b_,rfl,hq2,hq2',⟨hx2,hy2⟩,⟨hx2',hy2'⟩,⟨(S.num 4 rfl),(S.num 5 rfl)⟩,(S.num 6 rfl),(S.num 7 rfl)⟩) (show P1 Kc (q3) (q3') (.agg #[.bool b3_,.slice x3_.A x3_.n x3_.c,.slice y3_.A y3_.n y3_.c,.bool b3b_,.slice x3b_.A x3b_.n x3b_.c,.slice y3b_.A y3b_.n y3b_.c]) _ from⟨b3_,x3_,y3_,b3b_,x3b_,y3b_,rfl,hq3,hq3',⟨hx3,hy3⟩,⟨hx3',hy3'⟩,⟨(S.num 0 rfl),(S.num 1 rfl)⟩,(S.num 2 rfl),(S.num 3 rfl)⟩) (by omega) (by omega) (by omega) (by assumption) (by assumption) (by assumption) (by assumption)) fun v a V2 hF hb S=>?_
 subst hF
 refine za9 S (v:= .int .i64 (zaj (crs q1 (q1') q2 (q2') q3 (q3')) 0)) (zal rfl (S.at 0 rfl)) rfl rfl (by decide) (ls':=[(9,.int .i64 (zaj (crs q1 (q1') q2 (q2') q3 (q3')) 0)),(8,.agg #[.bool b3_,.slice x3_.A x3_.n x3_.c,.slice y3_.A y3_.n y3_.c,.bool b3b_,.slice x3b_.A x3b_.n x3b_.c,.slice y3b_.A y3b_.n y3b_.c]),(7,.pointer (some ⟨g1,12,none⟩)),(6,.agg #[.bool b2_,.slice x2_.A x2_.n x2_.c,.slice y2_.A y2_.n y2_.c,.bool b2b_,.slice x2b_.A x2b_.n x2b_.c,.slice y2b_.A y2b_.n y2b_.c]),(5,.pointer (some ⟨g1,6,none⟩)),(4,.agg #[.bool b1_,.slice x1_.A x1_.n x1_.c,.slice y1_.A y1_.n y1_.c,.bool b1b_,.slice x1b_.A x1b_.n x1b_.c,.slice y1b_.A y1b_.n y1b_.c]),(3,.pointer (some ⟨g1,0,none⟩)),(1,.pointer (some ⟨g1,0,none⟩)),(0,.agg #[.bool b1_,.slice x1_.A x1_.n x1_.c,.slice y1_.A y1_.n y1_.c,.bool b1b_,.slice x1b_.A x1b_.n x1b_.c,.slice y1b_.A y1b_.n y1b_.c,.bool b2_,.slice x2_.A x2_.n x2_.c,.slice y2_.A y2_.n y2_.c,.bool b2b_,.slice x2b_.A x2b_.n x2b_.c,.slice y2b_.A y2b_.n y2b_.c,.bool b3_,.slice x3_.A x3_.n x3_.c,.slice y3_.A y3_.n y3_.c,.bool b3b_,.slice x3b_.A x3b_.n x3b_.c,.slice y3b_.A y3b_.n y3b_.c])]) rfl (fun a S=>?_)
 refine hK2 _ _ ?_
 refine wp_ret ?_
 exact zaM rfl S (S.at 0 rfl) ⟨_,rfl,rfl,S.below⟩
end Go.Proofs.YtdeelcoipmdoiaaGreatDoor
