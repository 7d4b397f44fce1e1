/- A part. -/
import Derived.WalkKit
import Derived.WalkSpells
import Derived.WalkLawsBesides
import Derived.LoopTactic
import Derived.Outline
import Derived.Lib.Hide
import Derived.IntWalk
import Derived.Deep.QuietTactic
import Derived.BigQuiet
import Derived.Laws.BitsAllLaws
import Derived.Deep.RegionWith
import Derived.StillTailTactics
import Derived.Test.YtipckjmgdghkiaaGreatDoorRows
import Derived.Test.YtipckjmgdghkiaaGreatDoorGGen
namespace Go.Proofs.YtipckjmgdghkiaaGreatDoor
section
open Go Go.RowKit
theorem zbT (a:Int):IntKind.u64.wrap a=a%18446744073709551616:=by rfl
theorem zbJ:(Tryz.prog.info? 92).map (fun i=>(i.zero,i.size,i.bytes))=some (some (.int .u32 0),1,4):=by kernel_rfl
def limbs (N n:Nat):List Value:=(List.range n).map fun j=> .int .u32 (dig N j:Nat)
theorem zat (N n:Nat):(limbs N n).length=n:=by simp[limbs]
theorem zci {N n j:Nat}(h:j<n):(limbs N n)[j]?=some (.int .u32 (dig N j:Nat)):=by simp[limbs,h]
theorem zd0 {N n j:Nat}{u:Value}(h:(limbs N n)[j]?=some u):j<n/\u= .int .u32 (dig N j:Nat):=by
 have hj:j<n:=by have:=(List.getElem?_eq_some_iff.1 h).1;rwa [zat]at this
 rw[zci hj]at h
 exact⟨hj,by injection h with h;exact h.symm⟩
theorem zcg {N n:Nat}:∀u∈limbs N n,u.oneCell'=true:=by
 intro u hu
 simp only[limbs,List.mem_map]at hu
 obtain⟨j,_,rfl⟩:=hu
 rfl
def Gives (w:World)(N:Nat)(e:Ending)(w':World):Prop:=
 ∃A c,e= .returned (.slice A (lenL N) c)/\lenL N<=c/\c<=maxLen/\Fr w' w.heap.size w'.heap.size A (lenL N) N/\Below w.heap.size w w'
theorem zed {P:Program}{f:FuncId}{args:Array Value}{w:World}{n:Nat}{v:Value}
  (h:Calls P f args (w.drewN n) fun e w'=>e= .returned v/\w.drewN n=w'):Calls P f args (w.drewN n) fun e w''=>e= .returned v/\∃m,w''=w.drewN m:=
 h.mono fun _ _ ⟨he,hm⟩=>⟨he,n,hm.symm⟩
def zfN (n n' N M:Nat):Bool:=decide (n=n'/\N=M)
theorem zpR {n N M:Nat}(hN:N<Bw^n)(hM:M<Bw^n)(h:∀j,j<n->dig N j=dig M j):N=M:=zd7 hN hM h
theorem zdF {w W:World}{B:Nat}(h:Below B w W)(q:Nat):Below B w (W.drewN q):=⟨h.os,h.tape,h.output,h.size,h.block⟩
def zcj (N N':Nat):Int:=if N<N' then -1 else if N'<N then 1 else 0
theorem zfO {N N':Nat}(h:N<N'):zcj N N'= -1:=by simp[zcj,h]
theorem zmS {N N':Nat}(h:N'<N):zcj N N'=1:=by unfold zcj;rw[if_neg (by omega),if_pos h]
theorem zmT (N:Nat):zcj N N=0:=by simp[zcj]
theorem Rds.lit {w:World}{t:TypeId}{cs:Array Value}{l:List Num}(hcs:∀k (h:k<l.length),cs[k]?=some (.slice l[k].A l[k].n l[k].c))(hok:∀x∈l,x.ok w w.heap.size):
  Rds (w.alloc (.cells cs t)) (w.heap.size+1) (some ⟨w.heap.size,0,none⟩) l:=fun k hk=>
 ⟨⟨_,rfl,by simp,by
  have h:=World.alloc_heap_new' w (.cells cs t)
  rw[zaW]
  simp only[World.cell?,h]
  simpa using hcs k hk⟩,((hok _ (List.getElem_mem hk)).below (zv1.alloc zv0 _)).more (by omega)⟩
theorem Rds.two {w:World}{t:TypeId}{x y:Num}(hx:x.ok w w.heap.size)(hy:y.ok w w.heap.size):
  Rds (w.alloc (.cells #[.slice x.A x.n x.c,.slice y.A y.n y.c] t)) (w.alloc (.cells #[.slice x.A x.n x.c,.slice y.A y.n y.c] t)).heap.size (some ⟨w.heap.size,0,none⟩) [x,y]:=by
 rw[World.size_alloc]
 refine Rds.lit (fun k hk=>?_) (fun z hz=>?_)
 ·match k,hk with
  |0,_=>rfl
  |1,_=>rfl
 ·simp only[List.mem_cons,List.not_mem_nil,or_false]at hz
  rcases hz with rfl|rfl <;> assumption
theorem Rds.one {w:World}{t:TypeId}{x:Num}(hx:x.ok w w.heap.size):
  Rds (w.alloc (.cells #[.slice x.A x.n x.c] t)) (w.alloc (.cells #[.slice x.A x.n x.c] t)).heap.size (some ⟨w.heap.size,0,none⟩) [x]:=by
 rw[World.size_alloc]
 refine Rds.lit (fun k hk=>?_) (fun z hz=>?_)
 ·match k,hk with
  |0,_=>rfl
 ·simp only[List.mem_cons,List.not_mem_nil,or_false]at hz
  subst hz;assumption
theorem Fr.ok {w':World}{lo c N:Nat}{A:Option Addr}(h:Fr w' lo w'.heap.size A (lenL N) N)(hc:lenL N<=c)(hm:c<=maxLen)(hl:lenL N<=35184372087808):(Num.mk A (lenL N) c N).ok w' w'.heap.size:=⟨h.rd,hc,hm,hl⟩
theorem zkv (w:World){N g:Nat}{v:Int}(hv:v=(N:Int))(hg:w.heap.size=g)(hN:N<4294967296):(Num.mk (some ⟨g,0,none⟩) 1 1 N).ok (w.alloc (.cells #[.int .u32 v] 92)) (w.alloc (.cells #[.int .u32 v] 92)).heap.size:=by
 subst hv hg
 refine⟨?_,Nat.le_refl _,by simp[maxLen],by simp⟩
 rw[World.size_alloc]
 refine(Fr.lit (lo:=0) (Nat.zero_le _) (by simpa[Bw]using hN) (fun j hj=>?_)).rd
 have hj:j<1:=hj
 obtain rfl:j=0:=by omega
 simp[dig,Bw,Nat.mod_eq_of_lt hN]
theorem Gives.alloc {w w':World}{o:Obj}{N:Nat}{e:Ending}(h:Gives (w.alloc o) N e w'):Gives w N e w':=by
 obtain⟨A,c,he,h1,h2,h3,h4⟩:=h
 rw[World.size_alloc]at h3 h4
 exact⟨A,c,he,h1,h2,h3.from (by omega),((Below.refl _ w).alloc zv0 o).trans (h4.mono (by omega))⟩
theorem Num.ok.alloc {w:World}{x:Num}(h:x.ok w w.heap.size)(o:Obj):x.ok (w.alloc o) (w.alloc o).heap.size:=
 (h.below (zv1.alloc zv0 _)).more (by simp)
theorem Num.ok.later {w w':World}{x:Num}(h:x.ok w w.heap.size)(hb:Below w.heap.size w w'):x.ok w' w'.heap.size:=(h.below hb).more hb.size
def Env (w:World)(l:List Num)(W:World):Prop:=Below w.heap.size w W/\∀x∈l,x.ok W W.heap.size
section
variable {w W:World}{l:List Num}{x y z:Num}
theorem Env.start (h:∀x∈l,x.ok w w.heap.size):Env w l w:=⟨Below.refl _ _,h⟩
theorem Env.step {W':World}(h:Env w l W)(hb:Below W.heap.size W W'):Env w l W':=⟨h.1.trans (hb.mono h.1.size),fun x hx=>(h.2 x hx).later hb⟩
theorem Env.alloc (h:Env w l W)(o:Obj):Env w l (W.alloc o):=h.step (zv1.alloc zv0 _)
theorem Env.add (h:Env w l W)(hx:x.ok W W.heap.size):Env w (x::l) W:=⟨h.1,fun y hy=>by
 rcases List.mem_cons.1 hy with rfl|hy
 ·exact hx
 ·exact h.2 y hy⟩
theorem big (h:x.n<=35184372087808):x.n<=9223372036854775806:=by omega
def zh5 (w:World)(l:List Num)(lo N:Nat)(f:Num->Value)(e:Ending)(W':World):Prop:=
 ∃r:Num,e= .returned (f r)/\r.N=N/\r.n=lenL N/\Env w (r::l) W'/\Fr W' lo W'.heap.size r.A r.n r.N
theorem zbh {N:Nat}{e:Ending}{W':World}(h:Env w l W)(hg:Gives W N e W')(hN:lenL N<=35184372087808):zh5 w l W.heap.size N (fun r=> .slice r.A r.n r.c) e W':=by
 obtain⟨A,c,he,hc,hm,hF,hb⟩:=hg
 exact⟨⟨A,lenL N,c,N⟩,he,rfl,rfl,(h.step hb).add (hF.ok hc hm hN),hF⟩
theorem zc2 {N M n:Nat}(h1:N<Bw^n)(h2:M<Bw^n):lenL (N+M)<=n+1:=by
 rw[zai,Nat.pow_succ,za4]
 have:(4294967296:Nat)^n=Bw^n:=rfl
 rw[this]
 omega
theorem zaz {N n m:Nat}(h:N<Bw^n)(hm:n<=m):N<Bw^m:=zv3 h (zv5 zb9 hm)
theorem zjl (h:Env w l W)(hx:x∈l)(hy:y∈l){b:Nat}(h1:x.n<=b)(h2:y.n<=b):lenL (x.N+y.N)<=b+1:=
 zc2 (zaz (h.2 x hx).1.1 h1) (zaz (h.2 y hy).1.1 h2)
end
def zpS (w:World)(N:Nat)(e:Ending)(w':World):Prop:=
 ∃A c,e= .returned (.tuple #[.slice A (lenL N) c,.int .i64 0])/\lenL N<=c/\c<=maxLen/\Fr w' w.heap.size w'.heap.size A (lenL N) N/\Below w.heap.size w w'
theorem zgh {w W':World}{N m:Nat}{v':Value}(hm:m=lenL N)
  (hown:W'.ownsRow w.heap.size 92 1 v' (0+m) ([]++limbs N m)) (hg:(w.alloc (.cells #[] 92)).grownBy W' (some w.heap.size)):Gives w N (.returned v') W':=by
 subst hm
 rw[Nat.zero_add,List.nil_append]at hown
 obtain⟨A,c,rfl,h1,h2,h3⟩:=Fr.of_own hown (zaF N) (fun j hj=>zci hj)
 exact⟨A,c,rfl,h1,h2,h3,((Below.refl _ w).alloc zv0 _).grown hg (by simp) (fun k e=>by cases e;exact Nat.le_refl _)⟩
theorem zck {W:World}{A:Option Addr}{n N k:Nat}(h:Rd W W.heap.size A n N)(hk:k<=n):∀j u,(limbs N k)[j]?=some u->∃ad:Addr,A=some ad/\(W.alloc (.cells #[] 92)).cell? (ad.add j)=some u:=fun j u hu=>by
 obtain⟨hj,rfl⟩:=zd0 hu
 obtain⟨ad,e,hb,hc⟩:=(h.below (Below.alloc (Below.refl _ W) zv0 (.cells #[] 92))).at_ (k:=j) (by omega)
 exact⟨ad,e,hc⟩
def zjm (P:Nat->Prop)(v:Value):Prop:=(v= .int .i64 (-1)/\P 0)\/ ∃j:Nat,j<=9223372036854775805/\v= .int .i64 j/\P (j+1)
theorem zdL {P:Nat->Prop}(n:Nat)(hn:n<=9223372036854775806)(h:P n):zjm P (.int .i64 ((n:Int) - 1)):=by
 rcases n with _|n
 ·exact .inl ⟨rfl,h⟩
 ·exact .inr ⟨n,by omega,by simp,h⟩
theorem zlQ (N k:Nat):limbs N k++[.int .u32 (dig N k:Nat)]=limbs N (k+1):=by simp[limbs,List.range_succ]
theorem zcK (W:World)(t:TypeId)(v:Value):∀j u,[v][j]?=some u->∃ad:Addr,(some ⟨W.heap.size,0,none⟩:Option Addr)=some ad/\(W.alloc (.cells #[v] t)).cell? (ad.add j)=some u:=fun j u hu=>by
 have hj:j=0:=by
  rcases j with _|j
  ·rfl
  ·simp at hu
 subst hj
 simp only[List.getElem?_cons_zero,Option.some.injEq]at hu
 subst hu
 refine⟨_,rfl,?_⟩
 have h:=World.alloc_heap_new' W (.cells #[v] t)
 rw[zaW]
 simp only[World.cell?,h]
 rfl
theorem zcL {w wr w1:World}{e:TypeId}{v v':Value}{k N t:Nat}{vs:Value}(hb:Below w.heap.size w wr)(hown:wr.ownsRow w.heap.size e 1 v k (limbs N k))(hv:vs= .int .u32 (dig N k:Nat))
  (hown':w1.ownsRow w.heap.size e 1 v' (k+1) (limbs N k++[vs])) (hg:(wr.alloc (.cells #[vs] t)).grownBy w1 v.ownBlock):w1.ownsRow w.heap.size e 1 v' (k+1) (limbs N (k+1))/\Below w.heap.size w w1:=by
 subst hv
 rw[zlQ]at hown'
 exact⟨hown',(hb.alloc hb.size _).grown hg (by rw[World.size_alloc];have:=hb.size;omega) (fun q hq=>(hown.lt q hq).1)⟩
theorem Gives.later {w w1 w':World}{N:Nat}{e:Ending}(hb:Below w.heap.size w w1)(h:Gives w1 N e w'):Gives w N e w':=by
 obtain⟨A,c,he,h1,h2,h3,h4⟩:=h
 exact⟨A,c,he,h1,h2,h3.from hb.size,hb.trans (h4.mono hb.size)⟩
theorem zbU (x:Int):∀u∈[Value.int .u32 x],u.oneCell'=true:=by
 intro u hu
 simp only[List.mem_cons,List.not_mem_nil,or_false]at hu
 subst hu
 rfl
theorem zhy {N:Nat}(h:N<18446744073709551616):N<Bw^2/\∀j,j<2->(#[Value.int .u32 ((N:Int)%4294967296),Value.int .u32 ((N:Int)/4294967296)]:Array Value)[j]?=some (.int .u32 (dig N j:Nat)):=by
 refine⟨by simpa[Bw]using h,fun j hj=>?_⟩
 have h2:j=0\/j=1:=by omega
 rcases h2 with rfl|rfl
 ·simp[dig,Bw]
 ·have:(N:Int)/4294967296=(dig N 1:Nat):=by
   have:N/4294967296<4294967296:=Nat.div_lt_of_lt_mul (by omega)
   simp only[dig,Bw,Nat.pow_one]
   rw[Nat.mod_eq_of_lt this]
   simp
  simp[this]
theorem zbK {N:Nat}:lenL N<=2↔N<18446744073709551616:=by rw[zai];simp[Bw]
theorem zbV {N n:Nat}(h:N<Bw^n):N%Bw^n=N:=Nat.mod_eq_of_lt h
theorem zmU {O m p x:Nat}(hO:O<Bw^m)(hp:p<m)(hx:x<Bw):∃O',O'<Bw^m/\(∀j,dig O' j=if j=p then x else dig O j)/\O'+dig O p*Bw^p=O+x*Bw^p:=by
 obtain⟨O',h1,h2⟩:=zfF m (fun j=>if j=p then x else dig O j) (fun j hj=>by
  split
  ·exact hx
  ·exact zav O j)
 have key:∀k,k<=m->O'%Bw^k+(if p<k then dig O p*Bw^p else 0)=O%Bw^k+(if p<k then x*Bw^p else 0):=by
  intro k
  induction k with
  |zero=>intro _;simp[Nat.mod_one]
  |succ k ih=>
   intro hk
   have ih:=ih (by omega)
   have hd:=h2 k (by omega)
   rw[zaQ,zaQ,<-hd]
   by_cases e:k=p
   ·subst e
    rw[if_neg (by omega),if_neg (by omega)]at ih
    rw[if_pos rfl,if_pos (by omega),if_pos (by omega),Nat.mul_comm (Bw^k) x,Nat.mul_comm (Bw^k) (dig O k)]
    omega
   ·rw[if_neg e]
    by_cases e2:p<k
    ·rw[if_pos e2,if_pos e2]at ih
     rw[if_pos (by omega),if_pos (by omega)]
     omega
    ·rw[if_neg e2,if_neg e2]at ih
     rw[if_neg (by omega),if_neg (by omega)]
     omega
 refine⟨O',h1,fun j=>?_,?_⟩
 ·by_cases hj:j<m
  ·exact(h2 j hj).symm
  ·rw[zbN h1 (by omega),if_neg (by omega),zbN hO (by omega)]
 ·have:=key m zv0
  rwa [zbV h1,zbV hO,if_pos hp,if_pos hp]at this
def Buf (W:World)(g n O:Nat):Prop:=∀j,j<n->W.cell? ⟨g,j,none⟩=some (.int .u32 (dig O j:Nat))/\W.frozen? ⟨g,j,none⟩=false
theorem Buf.set {W:World}{g n O m p x:Nat}(h:Buf W g n O)(hO:O<Bw^m)(hp:p<m)(hx:x<4294967296):
  ∃O',Buf (W.setCell ⟨g,p,none⟩ (.int .u32 x)) g n O'/\O'<Bw^m/\O'+dig O p*Bw^p=O+x*Bw^p:=by
 obtain⟨O',h1,h2,h3⟩:=zmU hO hp (by rw[za4];exact hx)
 refine⟨O',fun j hj=>?_,h1,h3⟩
 obtain⟨c1,c2⟩:=h j hj
 refine⟨?_,by rw[World.frozen?_setCell];exact c2⟩
 rw[h2]
 by_cases e:j=p
 ·subst e
  rw[if_pos rfl]
  exact World.cell?_setCell_same' _ _ _ (by rw[c1];rfl)
 ·rw[if_neg e,World.cell?_setCell_other W ⟨g,p,none⟩ ⟨g,j,none⟩ _ (by first|(simp;done)|(simp;omega)),c1]
theorem Buf.drew {W:World}{g n O:Nat}(h:Buf W g n O)(q:Nat):Buf (W.drewN q) g n O:=h
theorem Buf.rd {W:World}{g n O:Nat}(h:Buf W g n O)(hO:O<Bw^n)(hg:0<n->g<W.heap.size):Rd W W.heap.size (some ⟨g,0,none⟩) n O:=
 ⟨hO,fun hn=>⟨⟨g,0,none⟩,rfl,hg hn,fun j hj=>by rw[zaW];exact(h j hj).1⟩⟩
theorem Buf.of_fr {W:World}{lo hi g n O:Nat}(h:Fr W lo hi (some ⟨g,0,none⟩) n O):Buf W g n O:=fun j hj=>by
 obtain⟨g',e,_,_,hc⟩:=h.2 (by omega)
 cases e
 exact hc j hj
theorem zb6 (w:World)(n:Nat)(hn:n<=35184372087810):∃w1,(Instr.makeSlice 23 (.int .i64 (n:Int)) (.int .i64 (n:Int))).run Tryz.prog w= .ok (.slice (some ⟨w.heap.size,0,none⟩) n n) w1/\
  Fr w1 w.heap.size (w.heap.size+1) (some ⟨w.heap.size,0,none⟩) n 0/\Below w.heap.size w w1/\w1.heap.size=w.heap.size+1:=by
 obtain⟨i0,hi,hz0,hz1,hz2⟩:=info_parts zbJ
 have h:=run_make (P:=Tryz.prog) w 23 92 i0 (.int .u32 0) Tryz.underlying23 hi hz0 .i64 .i64 n n (by omega) (Int.le_refl _) (by rw[hz2];omega) (by omega)
 simp only[Int.toNat_natCast]at h
 refine⟨_,h,Fr.lit zv0 (zag _) (fun j hj=>?_),zv1.alloc zv0 _,by simp⟩
 have e:(Value.int .u32 0).cells= #[.int .u32 0]:=rfl
 have e2:=toList_madeCells_one (.int .u32 0) (n*i0.size)
 rw[e,zbI,<-Array.getElem?_toList,e2,hz1]
 simp[hj]
theorem zaY (i k:Nat):Bw^(i+k)=Bw^i*Bw^k:=Nat.pow_add Bw i k
theorem zfP {O O' v p d N M i k x:Nat}(hx:x=d*dig M k+dig O p+v)(hs:O'+dig O p*Bw^p=O+x%4294967296*Bw^p)(hp:p=i+k)
  (h:O+v*Bw^p=N+d*Bw^i*(M%Bw^k)):O'+x/4294967296*Bw^(p+1)=N+d*Bw^i*(M%Bw^(k+1)):=by
 subst hp
 have e1:x/4294967296*Bw^(i+k+1)+x%4294967296*Bw^(i+k)=x*Bw^(i+k):=by
  rw[Nat.pow_succ,<-Nat.mul_assoc,Nat.mul_right_comm,<-Nat.add_mul]
  congr 1
  rw[za4];omega
 have e2:x*Bw^(i+k)=d*dig M k*Bw^(i+k)+dig O (i+k)*Bw^(i+k)+v*Bw^(i+k):=by rw[hx,Nat.add_mul,Nat.add_mul]
 have e3:d*Bw^i*(M%Bw^(k+1))=d*Bw^i*(M%Bw^k)+d*dig M k*Bw^(i+k):=by
  rw[zaQ,Nat.mul_add,zaY]
  congr 1
  ac_rfl
 omega
theorem zrS {O O' v p N M n' i:Nat}(hs:O'+dig O p*Bw^p=O+v*Bw^p)(h0:O<Bw^p)(hM:M<Bw^n')(h:O+v*Bw^p=N%Bw^i*M+dig N i*Bw^i*(M%Bw^n')):O'=N%Bw^(i+1)*M:=by
 rw[zbN h0 zv0,Nat.zero_mul,Nat.add_zero]at hs
 rw[hs,h,zbV hM,zaQ,Nat.add_mul,Nat.mul_comm (dig N i) (Bw^i)]
theorem zcu {N M n n':Nat}(h:N<Bw^n)(h':M<Bw^n'):N*M<Bw^(n+n'):=by
 rw[zaY]
 exact Nat.mul_lt_mul'' h h'
theorem zcd {N:Nat}(h:N≠0):0<lenL N:=by
 have:=mt zbF.1 h
 omega
theorem Env.pick {w W:World}{e e':List Num}(h:Env w e W)(hs:∀z∈e',z∈e):Env w e' W:=⟨h.1,fun z hz=>h.2 z (hs z hz)⟩
theorem zrT {N M:Nat}(h:M<=N):0<=zcj N M:=by unfold zcj;rw[if_neg (by omega)];split <;> omega
theorem Rds.env {w W:World}{e l:List Num}{A:Option Addr}(hR:Rds w w.heap.size A l)(h:Env w e W):Rds W W.heap.size A l:=(hR.below h.1).more h.1.size
theorem Fr.setCell {W:World}{lo hi g p n N:Nat}{A:Option Addr}(h:Fr W lo hi A n N)(hg:g<lo)(v:Value):Fr (W.setCell ⟨g,p,none⟩ v) lo hi A n N:=
 ⟨h.1,fun hn=>by
  obtain⟨g',e,h1,h2,h3⟩:=h.2 hn
  refine⟨g',e,h1,h2,fun j hj=>⟨?_,by rw[World.frozen?_setCell];exact(h3 j hj).2⟩⟩
  rw[World.cell?_setCell_other W ⟨g,p,none⟩ ⟨g',j,none⟩ _ (by first|(simp;done)|(simp;omega)),(h3 j hj).1]⟩
theorem zdM {w W':World}{l:List Num}{lo N:Nat}{e:Ending}(h:zh5 w l lo N (fun r=> .slice r.A r.n r.c) e W')(hlo:w.heap.size<=lo):Gives w N e W':=by
 obtain⟨⟨A,n,c,N'⟩,he,hN,hn,hE,hF⟩:=h
 have hN':N'=N:=hN
 have hn':n=lenL N:=hn
 subst hN' hn'
 obtain⟨_,h2,h3,_⟩:=hE.2 _ (List.mem_cons_self ..)
 exact⟨A,c,he,h2,h3,hF.from hlo,hE.1⟩
theorem Env.lit {w W:World}{e:List Num}{N g:Nat}{v:Int}(h:Env w e W)(hv:v=(N:Int))(hg:W.heap.size=g)(hN:N<4294967296):
 Env w (⟨some ⟨g,0,none⟩,1,1,N⟩::e) (W.alloc (.cells #[.int .u32 v] 92)):=(h.alloc _).add (zkv W hv hg hN)
theorem Env.nought {w W:World}{e:List Num}(h:Env w e W):Env w (⟨none,0,0,0⟩::e) W:=h.add ⟨Rd.none_,Nat.le_refl _,by simp[maxLen],by simp⟩
section
variable {w W:World}{e:List Num}{x y z:Num}
theorem zrU {N M n m:Nat}(h:N<Bw^n)(h':M<Bw^m):lenL (N*M)<=n+m:=zai.2 (zcu h h')
end
def zcl (N M:Nat):Nat:=if M=0 then 0 else N%M
def zfQ (M:Nat):Int:=if M=0 then 30 else 0
theorem zcU (N:Nat):zcl N 0=0:=rfl
theorem zcD {N M:Nat}(h:M≠0):zcl N M=N%M:=by simp[zcl,h]
theorem zfq:zfQ 0=30:=rfl
theorem zeU {M:Nat}(h:M≠0):zfQ M=0:=by simp[zfQ,h]
theorem zkw (N M:Nat):zcl N M<=N:=by
 unfold zcl
 split
 ·omega
 ·exact Nat.mod_le _ _
theorem zpT {W:World}{hi N n:Nat}{A:Option Addr}(h:Rd W hi A n N)(hn:n=1):∃g,A=some g/\W.cell? g=some (.int .u32 (N:Nat)):=by
 subst hn
 obtain⟨ad,e,_,hc⟩:=h.at_ (k:=0) (by omega)
 have h1:=h.1
 refine⟨ad,e,?_⟩
 have h2:ad.add 0=ad:=by unfold Addr.add;split <;> simp_all
 rw[h2]at hc
 rw[hc,show dig N 0=N from by rw[Nat.pow_one,za4]at h1;simp[dig,za4,Nat.mod_eq_of_lt h1]]
def Has (w:World)(N:Nat)(v:Value)(w':World):Prop:=
 ∃A c,v= .slice A (lenL N) c/\lenL N<=c/\c<=maxLen/\Fr w' w.heap.size w'.heap.size A (lenL N) N/\Below w.heap.size w w'
theorem Has.gives {w w':World}{N:Nat}{v:Value}(h:Has w N v w'):Gives w N (.returned v) w':=by
 obtain⟨A,c,rfl,h1,h2,h3,h4⟩:=h
 exact⟨A,c,rfl,h1,h2,h3,h4⟩
theorem zjn:lenL 1=1:=by decide
theorem Has.one (w:World)(t:TypeId):Has w 1 (.slice (some ⟨w.heap.size,0,none⟩) 1 1) (w.alloc (.cells #[.int .u32 1] t)):=by
 refine⟨some ⟨w.heap.size,0,none⟩,1,by rw[zjn],by rw[zjn];omega,by simp[maxLen],?_,zv1.alloc zv0 _⟩
 rw[World.size_alloc,zjn]
 refine Fr.lit zv0 (by decide) (fun j hj=>?_)
 obtain rfl:j=0:=by omega
 rfl
def ziv (l:List Num):Nat:=(l.map Num.N).prod
def bitsN (N:Nat):Nat:=if N=0 then 0 else N.log2+1
theorem zlR:bitsN 0=0:=rfl
theorem zaH {N k:Nat}:bitsN N<=k↔N<2^k:=by
 unfold bitsN
 split
 ·next h=>subst h;simp[zv8]
 ·next h=>rw[<-Nat.log2_lt h];omega
theorem zpU {N k:Nat}(h1:2^k<=N)(h2:N<2^(k+1)):bitsN N=k+1:=by
 have a:=zaH.2 h2
 have b: ¬bitsN N<=k:=fun h=>by have:=zaH.1 h;omega
 omega
def zlS (d s:Nat):Nat:=d/2^s
theorem znY (d:Nat):zlS d 0=d:=by simp[zlS]
theorem zrV {N m s:Nat}(hm:lenL N=m+1)(h0:zlS (dig N m) s=0)(h1:s=0\/zlS (dig N m) (s - 1)≠0):bitsN N=32*m+s:=by
 have hd:=zgZ hm
 have hN:N<Bw^(m+1):=by have:=zaF N;rwa [hm]at this
 have hs:s≠0:=fun e=>hd (by rw[e,znY]at h0;exact h0)
 obtain⟨t,rfl⟩:∃t,s=t+1:=⟨s - 1,by omega⟩
 rw[Nat.add_sub_cancel]at h1
 have h2:zlS (dig N m) t≠0:=h1.resolve_left (by omega)
 have l1:2^t<=dig N m:=by
  rcases zv6 (dig N m) (2^t)with h|h
  ·exact absurd (Nat.div_eq_of_lt h) h2
  ·exact h
 have l2:dig N m<2^(t+1):=by
  rcases zv6 (dig N m) (2^(t+1))with h|h
  ·exact h
  ·have:0<dig N m/2^(t+1):=Nat.div_pos h (zv8 _)
   unfold zlS at h0;omega
 have e:N=N%Bw^m+Bw^m*dig N m:=by rw[<-zaQ,Nat.mod_eq_of_lt hN]
 have hlt:N%Bw^m<Bw^m:=Nat.mod_lt _ (zag m)
 obtain⟨r,hr⟩:∃r,N%Bw^m=r:=⟨_,rfl⟩
 rw[hr]at e hlt
 have hp:Bw^m=2^(32*m):=zbo m
 refine zpU (k:=32*m+t) ?_ ?_
 ·rw[Nat.pow_add,<-hp]
  have:=Nat.mul_le_mul_left (Bw^m) l1
  omega
 ·rw[show 32*m+t+1=32*m+(t+1)from by omega,Nat.pow_add,<-hp]
  have:=Nat.mul_le_mul_left (Bw^m) (show dig N m+1<=2^(t+1)from l2)
  rw[Nat.mul_add,Nat.mul_one]at this
  omega
theorem ziw {N s k j:Nat}(hj:j<k):dig (N/Bw^s%Bw^k) j=dig N (s+j):=by
 have h:dig (N/Bw^s%Bw^k) j=dig (N/Bw^s) j:=by
  obtain⟨q,hq⟩:∃q,k=j+(q+1):=⟨k - j - 1,by omega⟩
  unfold dig
  rw[hq,zaY,Nat.mod_mul_right_div_self,Nat.pow_succ',Nat.mod_mul_right_mod]
 rw[h]
 unfold dig
 rw[Nat.div_div_eq_div_mul,<-zaY]
theorem Rd.piece {W:World}{hi n N:Nat}{A:Option Addr}(h:Rd W hi A n N){s k:Nat}(hs:s+k<=n):Rd W hi (A.map fun ad=>ad.add s) k (N/Bw^s%Bw^k):=
 ⟨Nat.mod_lt _ (zag k),fun hk=>by
  obtain⟨ad,e,hb,hc⟩:=h.2 (by omega)
  refine⟨ad.add s,by rw[e];rfl,by rw[zaM];exact hb,fun j hj=>?_⟩
  rw[Addr.add_add,ziw hj]
  exact hc (s+j) (by omega)⟩
theorem zh6 (N s k:Nat):N%Bw^s+Bw^s*(N/Bw^s%Bw^k)=N%Bw^(s+k):=by rw[zaY,Nat.mod_mul]
theorem znZ {N n s m:Nat}(h:N<Bw^n)(hs:s<n):N%Bw^(s+(min (s+m) n - s))=N%Bw^(s+m):=by
 rcases zv6 n (s+m)with h1|h1
 ·rw[show s+(min (s+m) n - s)=n by omega,Nat.mod_eq_of_lt h,Nat.mod_eq_of_lt (zaz h (by omega))]
 ·rw[show s+(min (s+m) n - s)=s+m by omega]
theorem Rd.low {W:World}{hi n N:Nat}{ad:Addr}(h:Rd W hi (some ad) n N){k:Nat}(hs:k<=n):Rd W hi (some ad) k (N%Bw^k):=by
 have:=h.piece (s:=0) (k:=k) (by omega)
 simpa[Addr.add_zero',Nat.div_one]using this
theorem Rd.empty {W:World}{hi n N:Nat}{A A':Option Addr}(h:Rd W hi A n N)(h0:n=0):Rd W hi A' n N:=⟨h.1,fun hn=>by omega⟩
theorem Rd.high {W:World}{hi n N:Nat}{ad:Addr}(h:Rd W hi (some ad) n N){k:Nat}(hs:k<=n):Rd W hi (some (ad.add k)) (n - k) (N/Bw^k):=by
 have:=h.piece (s:=k) (k:=n - k) (by omega)
 rw[Nat.mod_eq_of_lt]at this
 ·exact this
 ·rw[Nat.div_lt_iff_lt_mul (zag k),<-zaY,show n - k+k=n by omega];exact h.1
theorem Rds.take {W:World}{hi:Nat}{A:Option Addr}{l:List Num}(h:Rds W hi A l)(k:Nat):Rds W hi A (l.take k):=fun j hj=>by
 have hj':j<l.length:=by rw[List.length_take]at hj;omega
 have:=h j hj'
 rwa [List.getElem_take]
theorem Rds.drop {W:World}{hi:Nat}{ad:Addr}{l:List Num}(h:Rds W hi (some ad) l)(k:Nat):Rds W hi (some (ad.add k)) (l.drop k):=fun j hj=>by
 have hj':k+j<l.length:=by rw[List.length_drop]at hj;omega
 obtain⟨⟨ad',e,hb,hc⟩,h2⟩:=h (k+j) hj'
 cases e
 rw[List.getElem_drop]
 exact⟨⟨_,rfl,by rw[zaM];exact hb,by rw[Addr.add_add];exact hc⟩,h2⟩
theorem zhz {N q r j:Nat}(hr:r<=32):dig (N/2^(32*q+r)) j=(dig N (q+j)+4294967296*dig N (q+j+1))/2^r%4294967296:=by
 have hB:Bw=2^r*2^(32 - r):=by rw[<-Nat.pow_add,show r+(32 - r)=32 from by omega];rfl
 obtain⟨Y,hY⟩:∃Y,N/Bw^(q+j)=Y:=⟨_,rfl⟩
 have e1:dig (N/2^(32*q+r)) j=Y/2^r%Bw:=by
  unfold dig
  rw[Nat.pow_add,<-zbo,<-hY,zaY,<-Nat.div_div_eq_div_mul,<-Nat.div_div_eq_div_mul,Nat.div_div_eq_div_mul _ (2^r),Nat.mul_comm (2^r),<-Nat.div_div_eq_div_mul]
 have e2:dig N (q+j)=Y%Bw:=by unfold dig;rw[hY]
 have e3:dig N (q+j+1)=Y/Bw%Bw:=by unfold dig;rw[Nat.pow_succ,<-Nat.div_div_eq_div_mul,hY]
 rw[e1,e2,e3,<-za4]
 have e4:Y=2^r*(2^(32 - r)*Bw*(Y/Bw/Bw))+(Y%Bw+Bw*(Y/Bw%Bw)):=by
  have h1:=Nat.div_add_mod Y Bw
  have h2:=Nat.div_add_mod (Y/Bw) Bw
  have h3:2^r*(2^(32 - r)*Bw*(Y/Bw/Bw))=Bw*(Bw*(Y/Bw/Bw)):=by rw[<-Nat.mul_assoc,<-Nat.mul_assoc,<-hB,Nat.mul_assoc]
  rw[h3]
  have h4:Bw*(Y/Bw)=Bw*(Bw*(Y/Bw/Bw))+Bw*(Y/Bw%Bw):=by rw[<-Nat.mul_add,h2]
  omega
 obtain⟨y,hy⟩:∃y,Y%Bw+Bw*(Y/Bw%Bw)=y:=⟨_,rfl⟩
 obtain⟨z,hz⟩:∃z,Y/Bw/Bw=z:=⟨_,rfl⟩
 rw[hy,hz]at e4
 rw[hy]
 conv=>lhs;rw[e4,Nat.mul_add_div (zv8 r)]
 rw[show 2^(32 - r)*Bw*z=Bw*(2^(32 - r)*z)from by ac_rfl,Nat.mul_add_mod]
theorem zrW {N n q r j:Nat}(h:N<Bw^n)(hj:n<=q+j):N/2^(32*q+r)<Bw^j:=by
 rw[Nat.pow_add,<-zbo,<-Nat.div_div_eq_div_mul]
 refine zv4 (Nat.div_le_self _ _) ?_
 rw[Nat.div_lt_iff_lt_mul (zag q),<-Nat.pow_add,Nat.add_comm]
 exact zv3 h (zv5 zb9 hj)
theorem zhA (X r:Nat):(X:Int)/2^r%4294967296=((X/2^r%4294967296:Nat):Int):=by
 rw[Int.natCast_emod,Int.natCast_ediv,Int.natCast_pow]
 rfl
theorem zfR {a b:Int}(h:a=b):Value.int .i64 a= .int .i64 b:=by rw[h]
theorem zn0 {x y:Nat}(hx:x<4294967296)(hy:y<4294967296):bits BinOp.or IntKind.u64 (x:Int) ((y:Int)*4294967296)=((x+4294967296*y:Nat):Int):=by
 have e:((y:Int)*4294967296)=((y*4294967296:Nat):Int):=by omega
 rw[e,u64_or_nat x (y*4294967296) (by omega) (by omega)]
 have:x ||| y*4294967296=x+4294967296*y:=by
  rw[Nat.or_comm,show y*4294967296=y <<< 32 from by rw[Nat.shiftLeft_eq],<-Nat.shiftLeft_add_eq_or_of_lt hx,Nat.shiftLeft_eq]
  omega
 rw[this]
theorem zpV (w:World)(n:Nat)(hn:n<=35184372087808):∃w1,(Instr.makeSlice 23 (.int .i64 (n:Int)) (.int .i64 (n:Int))).run Tryz.prog w= .ok (.slice (some ⟨w.heap.size,0,none⟩) n n) w1/\
  w1.ownsRow w.heap.size 92 1 (.slice (some ⟨w.heap.size,0,none⟩) n n) n (List.replicate n (.int .u32 0))/\Below w.heap.size w w1:=by
 obtain⟨i0,hi,hz0,hz1,hz2⟩:=info_parts zbJ
 obtain⟨w1,h1,h2,h3⟩:=run_make_full (P:=Tryz.prog) w w.heap.size 23 92 i0 (.int .u32 0) 1 Tryz.underlying23 hi hz0 hz1 .i64 .i64 n (by rw[hz2];omega) (by simp only[maxLen];omega) zv0
 have e:(Value.int .u32 0).cells= #[.int .u32 0]:=rfl
 rw[e,toList_madeCells_one,Nat.mul_one]at h2
 exact⟨w1,h1,h2,(Below.refl _ w).grown h3 zv0 (fun k e=>by cases e)⟩
def zfr (N r i:Nat):Nat:=N%Bw^i*2^r/Bw^i
theorem zn1 (N r:Nat):zfr N r 0=0:=by simp[zfr,Nat.mod_one]
theorem zrX (N r i:Nat):zfr N r i<2^r:=by
 unfold zfr
 rw[Nat.div_lt_iff_lt_mul (zag i),Nat.mul_comm (2^r)]
 exact Nat.mul_lt_mul_of_pos_right (Nat.mod_lt _ (zag i)) (zv8 r)
theorem zn2 (N r i:Nat):zfr N r (i+1)=(dig N i*2^r+zfr N r i)/Bw:=by
 unfold zfr
 rw[zaQ,Nat.pow_succ,<-Nat.div_div_eq_div_mul,Nat.add_mul,Nat.mul_assoc,Nat.add_mul_div_left _ _ (zag i),Nat.add_comm]
theorem ztJ (N r i:Nat):dig (N*2^r) i=(dig N i*2^r+zfr N r i)%Bw:=by
 have e:N*2^r/Bw^i=N/Bw^i*2^r+zfr N r i:=by
  conv=>lhs;rw[<-Nat.div_add_mod N (Bw^i)]
  rw[Nat.add_mul,Nat.mul_assoc,Nat.mul_add_div (zag i)]
  rfl
 have d:dig (N*2^r) i=(N/Bw^i*2^r+zfr N r i)%Bw:=by unfold dig;rw[e]
 rw[d]
 have h:=Nat.div_add_mod (N/Bw^i) Bw
 have:N/Bw^i*2^r+zfr N r i=Bw*(N/Bw^i/Bw*2^r)+(dig N i*2^r+zfr N r i):=by
  conv=>lhs;rw[<-h]
  rw[Nat.add_mul,Nat.mul_assoc,Nat.add_assoc]
  rfl
 rw[this,Nat.mul_add_mod]
theorem zpW {d low r:Nat}(hr:r<=32)(hl:low<2^r):∃c,2^r*c=4294967296/\d*2^r%4294967296=d%c*2^r/\(d*2^r+low)/4294967296=d*2^r/4294967296/\(d*2^r+low)%4294967296=d%c*2^r+low/\d%c*2^r+low<4294967296:=by
 have hB:2^r*2^(32 - r)=4294967296:=by rw[<-Nat.pow_add,show r+(32 - r)=32 from by omega]
 obtain⟨c,hc⟩:∃c,2^(32 - r)=c:=⟨_,rfl⟩
 obtain⟨t,ht⟩:∃t,2^r=t:=⟨_,rfl⟩
 rw[hc,ht]at hB
 rw[ht]at hl
 have hcp:0<c:=by
  rcases zv7 c with h|h
  ·subst h
   simp at hB
  ·exact h
 rw[ht]
 have h1:=Nat.div_add_mod d c
 obtain⟨x,hx⟩:∃x,d/c=x:=⟨_,rfl⟩
 obtain⟨y,hy⟩:∃y,d%c=y:=⟨_,rfl⟩
 have hyc:y<c:=by rw[<-hy];exact Nat.mod_lt _ hcp
 rw[hx,hy]at h1
 have e1:d*t=4294967296*x+y*t:=by rw[<-h1,Nat.add_mul,<-hB];congr 1;ac_rfl
 have e2:(y+1)*t<=c*t:=Nat.mul_le_mul_right t hyc
 rw[Nat.mul_comm c t,hB,Nat.add_mul,Nat.one_mul]at e2
 exact⟨c,hB,by rw[hy];omega,by omega,by rw[hy];omega,by rw[hy];omega⟩
theorem zuM {y low r:Nat}(hl:low<2^r)(h:y*2^r+low<4294967296):bits BinOp.or IntKind.u32 ((y*2^r:Nat):Int) (low:Int)=((y*2^r+low:Nat):Int):=by
 rw[u32_or_nat _ low (by omega) (by omega),show y*2^r=y <<< r from by rw[Nat.shiftLeft_eq],Nat.shiftLeft_add_eq_or_of_lt hl]
theorem ztK (N q r i:Nat):dig (N*2^(32*q+r)) (q+i)=dig (N*2^r) i:=by
 unfold dig
 rw[Nat.pow_add,<-zbo,show N*(Bw^q*2^r)=Bw^q*(N*2^r)from by ac_rfl,zaY,Nat.mul_div_mul_left _ _ (zag q)]
theorem ztL (N q r j:Nat)(h:j<q):dig (N*2^(32*q+r)) j=0:=by
 unfold dig
 rw[Nat.pow_add,<-zbo,show q=j+1+(q - j - 1)from by omega,zaY,Nat.pow_succ,show N*(Bw^j*Bw*Bw^(q - j - 1)*2^r)=Bw^j*(Bw*(Bw^(q - j - 1)*N*2^r))from by ac_rfl,Nat.mul_div_cancel_left _ (zag j),Nat.mul_mod_right]
theorem zh7 {V q:Nat}(h:∀j,j<q->dig V j=0):List.replicate q (.int .u32 0)=limbs V q:=by
 apply List.ext_getElem?
 intro j
 by_cases hj:j<q
 ·rw[zci hj,h j hj,List.getElem?_replicate,if_pos hj]
  rfl
 ·rw[List.getElem?_eq_none (by simp;omega),List.getElem?_eq_none (by rw[zat];omega)]
theorem ztb {N n q r:Nat}(h:N<Bw^n)(hr:r<=32):N*2^(32*q+r)<Bw^(q+n+1):=by
 rw[Nat.pow_add 2,<-zbo,Nat.pow_succ,zaY]
 have h1:2^r<=Bw:=by have:(2:Nat)^r<=2^32:=zv5 (by omega) hr;exact this
 calc N*(Bw^q*2^r)=Bw^q*N*2^r:=by ac_rfl
  _<=Bw^q*N*Bw:=Nat.mul_le_mul_left _ h1
  _<Bw^q*Bw^n*Bw:=Nat.mul_lt_mul_of_pos_right (Nat.mul_lt_mul_of_pos_left h (zag q)) zb9
theorem zpX {N n:Nat}(h:N<Bw^n)(m:Nat):lenL (N*2^m)<=m/32+n+1:=by
 have:=ztb (q:=m/32) (r:=m%32) h (by omega)
 rw[Nat.div_add_mod]at this
 exact zai.2 this
theorem zeF {d:Nat}(h:d%2=1)(k:Nat):Nat.Coprime d (2^k):=by
 refine Nat.Coprime.pow_right k ?_
 have h1:Nat.gcd d 2∣2:=Nat.gcd_dvd_right d 2
 have h2:Nat.gcd d 2∣d:=Nat.gcd_dvd_left d 2
 have h3:Nat.gcd d 2<=2:=Nat.le_of_dvd (by omega) h1
 have h4:Nat.gcd d 2≠0:=fun e=>by rw[e]at h1;have:=Nat.eq_zero_of_zero_dvd h1;omega
 have h5:Nat.gcd d 2≠2:=fun e=>by rw[e]at h2;omega
 show Nat.gcd d 2=1
 omega
theorem zeV {d k m:Nat}(h:d%2=1):d∣2^k*m↔d∣m:=
 ⟨fun hd=>Nat.Coprime.dvd_of_dvd_mul_left (zeF h k) hd,fun hd=>Nat.dvd_trans hd (Nat.dvd_mul_left m _)⟩
def zjo (N k:Nat):Prop:=∃m,N=2^k*m/\m%2=1
def zgi (D A B:Nat):Prop:=D%2=1/\B≠0/\(∀d,d%2=1->(d∣D↔d∣A/\d∣B))/\(A=0->B%2=1)
theorem zjp {m m':Nat}(h:m%2=1):Nat.gcd m m'%2=1:=by
 have h1:=Nat.gcd_dvd_left m m'
 rcases Nat.mod_two_eq_zero_or_one (Nat.gcd m m')with h2|h2
 ·have h3:2∣m:=Nat.dvd_trans (Nat.dvd_of_mod_eq_zero h2) h1
  omega
 ·exact h2
theorem zhB {k m:Nat}(h:m%2=1):2^k*m≠0:=Nat.mul_ne_zero (Nat.ne_of_gt (zv8 k)) (by omega)
theorem zn3 {k k' m m':Nat}(h:m%2=1)(h':m'%2=1):zgi (Nat.gcd m m') (2^k*m) (2^k'*m'):=
 ⟨zjp h,zhB h',fun d hd=>by rw[zeV hd,zeV hd,Nat.dvd_gcd_iff],fun e=>absurd e (zhB h)⟩
theorem zlT {D k k' m m':Nat}(_h':m'%2=1)(hI:zgi D (2^k*m) (2^k'*m'))(_hm:m%2=1):D%2=1/\∀d,d%2=1->(d∣D↔d∣m/\d∣m'):=
 ⟨hI.1,fun d hd=>by rw[hI.2.2.1 d hd,zeV hd,zeV hd]⟩
theorem zkx {D m m':Nat}(hm':m'%2=1)(hle:m'<=m)(hI:D%2=1/\∀d,d%2=1->(d∣D↔d∣m/\d∣m')):zgi D (m - m') m':=
 ⟨hI.1,by omega,fun d hd=>by
  rw[hI.2 d hd]
  refine⟨fun⟨h1,h2⟩=>⟨Nat.dvd_sub h1 h2,h2⟩,fun⟨h1,h2⟩=>⟨?_,h2⟩⟩
  have:=Nat.dvd_add h1 h2
  rwa [Nat.sub_add_cancel hle]at this,fun _=>hm'⟩
theorem zpY {D m m':Nat}(hI:D%2=1/\∀d,d%2=1->(d∣D↔d∣m/\d∣m')):D%2=1/\∀d,d%2=1->(d∣D↔d∣m'/\d∣m):=
 ⟨hI.1,fun d hd=>by rw[hI.2 d hd,and_comm]⟩
theorem zrY {D B:Nat}(hI:zgi D 0 B):B=D:=by
 obtain⟨h1,h2,h3,h4⟩:=hI
 have hB:=h4 rfl
 exact Nat.dvd_antisymm ((h3 B hB).2 ⟨Nat.dvd_zero B,Nat.dvd_refl B⟩) ((h3 D h1).1 (Nat.dvd_refl D)).2
theorem zfS {k k' m m':Nat}(h:m%2=1)(h':m'%2=1):Nat.gcd (2^k*m) (2^k'*m')=Nat.gcd m m'*2^min k k':=by
 rcases Nat.le_total k k' with hk|hk
 ·rw[show k'=k+(k' - k) by omega,Nat.pow_add,Nat.mul_assoc,Nat.gcd_mul_left,Nat.Coprime.gcd_mul_left_cancel_right _ (zeF h (k' - k)).symm,show min k (k+(k' - k))=k by omega,Nat.mul_comm]
 ·rw[show k=k'+(k - k') by omega,Nat.pow_add,Nat.mul_assoc,Nat.gcd_mul_left,Nat.Coprime.gcd_mul_left_cancel _ (zeF h' (k - k')).symm,show min (k'+(k - k')) k'=k' by omega,Nat.mul_comm]
theorem zky {N j s q:Nat}(h0:N%Bw^j=0)(hq:dig N j/2^s=q)(hd:dig N j%2^s=0)(ho:q%2=1):∃m,N=2^(32*j+s)*m/\m%2=1:=by
 have hs:s<32:=by
  rcases zv6 s 32 with h1|h1
  ·exact h1
  ·have h2:(2:Nat)^32<=2^s:=zv5 (by omega) h1
   have h3:=zav N j
   rw[Nat.div_eq_of_lt (by omega)]at hq
   omega
 obtain⟨X,hX⟩:∃X,N/Bw^j=X:=⟨_,rfl⟩
 have e1:N=Bw^j*X:=by
  have:=Nat.div_add_mod N (Bw^j)
  rw[h0,hX]at this
  omega
 have e2:dig N j=X%Bw:=by unfold dig;rw[hX]
 have e3:dig N j=2^s*q:=by
  have:=Nat.div_add_mod (dig N j) (2^s)
  rw[hd,hq]at this
  omega
 have hB:Bw=2^s*(2*2^(31 - s)):=by
  rw[<-Nat.pow_succ',<-Nat.pow_add,show s+(31 - s+1)=32 from by omega]
  rfl
 obtain⟨z,hz⟩:∃z,X/Bw=z:=⟨_,rfl⟩
 have e4:X=2^s*(2*(2^(31 - s)*z)+q):=by
  have h:=Nat.div_add_mod X Bw
  rw[<-e2,e3,hz]at h
  rw[Nat.mul_add,<-h,hB]
  congr 1
  ac_rfl
 refine⟨2*(2^(31 - s)*z)+q,?_,by omega⟩
 rw[Nat.pow_add,<-zbo,Nat.mul_assoc,<-e4,e1]
theorem zg6 {N M n m b:Nat}(h:N<Bw^n)(h':M<Bw^m)(hn:n<=b)(hm:m<=b):lenL (Nat.gcd N M)<=b:=by
 rcases zv7 N with h0|h0
 ·subst h0
  rw[Nat.gcd_zero_left]
  exact zv2 (zai.2 h') hm
 ·exact zv2 (zaG (Nat.gcd_le_left M h0)) (zv2 (zai.2 h) hn)
theorem Has.zero (w:World):Has w 0 (.slice none 0 0) w:=⟨none,0,by rw[zaS],by rw[zaS];omega,by simp[maxLen],by rw[zaS];exact Fr.nil,Below.refl _ _⟩
end
section
open Go
theorem zix {O P P' t M i k p v b e x:Nat}(hx:x=v+t*dig M k)(he:e+x%4294967296=dig P p+b*4294967296)(hs:P'+dig P p*Bw^p=P+e*Bw^p)(hp:p=i+k)
  (h:P+t*Bw^i*(M%Bw^k)=O+v*Bw^p):P'+t*Bw^i*(M%Bw^(k+1))=O+(x/4294967296+b)*Bw^(p+1):=by
 subst hp
 have e3:t*Bw^i*(M%Bw^(k+1))=t*Bw^i*(M%Bw^k)+t*dig M k*Bw^(i+k):=by
  rw[zaQ,Nat.mul_add,Nat.pow_add]
  congr 1
  ac_rfl
 have e4:(x/4294967296+b)*Bw^(i+k+1)=(x/4294967296*4294967296)*Bw^(i+k)+b*4294967296*Bw^(i+k):=by
  rw[Nat.pow_succ,za4,Nat.add_mul]
  congr 1 <;> ac_rfl
 have e5:x*Bw^(i+k)=v*Bw^(i+k)+t*dig M k*Bw^(i+k):=by rw[hx,Nat.add_mul]
 have e6:x*Bw^(i+k)=(x/4294967296*4294967296)*Bw^(i+k)+x%4294967296*Bw^(i+k):=by
  rw[<-Nat.add_mul];congr 1;omega
 have e7:e*Bw^(i+k)+x%4294967296*Bw^(i+k)=dig P (i+k)*Bw^(i+k)+b*4294967296*Bw^(i+k):=by
  rw[<-Nat.add_mul,he,Nat.add_mul]
 omega
structure Top (U D Z H r0 t h l:Nat):Prop where
 u:∃a,U=(H*4294967296+t)*Z+a/\a<Z
 d:∃a,D=(h*4294967296+l)*Z+a/\a<Z
 h1:0<h
 h2:h<4294967296
 l2:l<4294967296
 t2:t<4294967296
 r:r0=0
 lt:U<D*4294967296
variable {U D Z H t h l:Nat}
theorem Top.low (T:Top U D Z H 0 t h l):(h*4294967296+l)*Z<=D:=by
 obtain⟨a,e,_⟩:=T.d
 omega
theorem Top.dpos (T:Top U D Z H 0 t h l):0<D:=by
 have:=T.lt
 rcases zv7 D with h|h
 ·subst h;omega
 ·exact h
theorem Top.q_lt (T:Top U D Z H 0 t h l):U/D<4294967296:=by
 rw[Nat.div_lt_iff_lt_mul T.dpos,Nat.mul_comm];exact T.lt
theorem Top.q_le (T:Top U D Z H 0 t h l):U/D*(h*4294967296+l)<=H*4294967296+t:=by
 obtain⟨a,e,ha⟩:=T.u
 have h1:U/D*D<=U:=Nat.div_mul_le_self U D
 have h2:U/D*((h*4294967296+l)*Z)<=U/D*D:=Nat.mul_le_mul_left _ T.low
 rw[<-Nat.mul_assoc]at h2
 have h3:U/D*(h*4294967296+l)*Z<(H*4294967296+t+1)*Z:=by
  rw[Nat.add_mul (H*4294967296+t) 1 Z,Nat.one_mul];omega
 have:=Nat.lt_of_mul_lt_mul_right h3
 omega
theorem Top.first (T:Top U D Z H 0 t h l):U/D<=H/h:=by
 rw[Nat.le_div_iff_mul_le T.h1]
 have h1:=T.q_le
 rw[Nat.mul_add,<-Nat.mul_assoc]at h1
 have:=T.t2
 omega
theorem Top.last {q:Nat}(T:Top U D Z H 0 t h l)(hq:q*(h*4294967296+l)<=H*4294967296+t)(hb:q<4294967297):q<=U/D+1:=by
 rcases zv7 q with h0|h0
 ·subst h0;exact Nat.zero_le _
 ·obtain⟨a,ea,ha⟩:=T.d
  obtain⟨b,eb,_⟩:=T.u
  have h1:=T.h1
  obtain⟨k,rfl⟩:∃k,q=k+1:=⟨q - 1,by omega⟩
  suffices hs:k<=U/D by omega
  rw[Nat.le_div_iff_mul_le T.dpos,ea,Nat.mul_add,<-Nat.mul_assoc]
  rw[Nat.add_mul,Nat.one_mul]at hq
  have h2:k*a<=4294967295*Z+Z:=by
   have:=Nat.mul_le_mul (show k<=4294967296 by omega) (Nat.le_of_lt ha)
   omega
  have h3:4294967296*Z<=(h*4294967296+l)*Z:=Nat.mul_le_mul_right _ (by omega)
  have h4:=Nat.mul_le_mul_right Z hq
  rw[Nat.add_mul]at h4
  omega
def zkz (U D H h q r:Nat):Prop:=H=q*h+r/\U/D<=q
theorem Top.start (T:Top U D Z H 0 t h l):zkz U D H h (H/h) (H%h):=⟨(Nat.div_add_mod' H h).symm,T.first⟩
theorem Top.next {q r:Nat}(T:Top U D Z H 0 t h l)(hg:zkz U D H h q r)(hm:4294967295<q\/r*4294967296+t<q*l):1<=q/\zkz U D H h (q - 1) (r+h)/\r+h<=H:=by
 obtain⟨e,hq⟩:=hg
 have h0:1<=q:=by
  rcases hm with hm|hm
  ·omega
  ·rcases zv7 q with h|h
   ·subst h;omega
   ·exact h
 obtain⟨k,rfl⟩:∃k,q=k+1:=⟨q - 1,by omega⟩
 rw[Nat.add_mul,Nat.one_mul]at e
 refine⟨h0,⟨by rw[Nat.add_sub_cancel];omega,?_⟩,by omega⟩
 rw[Nat.add_sub_cancel]
 rcases zv6 k (U/D)with h|h
 ·exfalso
  have hqe:U/D=k+1:=by omega
  rcases hm with hm|hm
  ·have:=T.q_lt
   omega
  ·have h1:=T.q_le
   rw[hqe,Nat.mul_add,<-Nat.mul_assoc,Nat.add_mul k 1 _,Nat.one_mul,Nat.add_mul]at h1
   omega
 ·exact h
theorem Top.stop {q r:Nat}(T:Top U D Z H 0 t h l)(hg:zkz U D H h q r)(hq: ¬4294967295<q)(hm:4294967295<r\/q*l<=r*4294967296+t):U/D<=q/\q<=U/D+1:=by
 refine⟨hg.2,T.last ?_ (by omega)⟩
 have e:=hg.1
 have h2:q*l<=r*4294967296+t:=by
  rcases hm with hm|hm
  ·have:=Nat.mul_le_mul (show q<=4294967295 by omega) (show l<=4294967295 by have:=T.l2;omega)
   omega
  ·exact hm
 rw[Nat.mul_add,<-Nat.mul_assoc,e,Nat.add_mul]
 omega
theorem ztM {U D n:Nat}(hn:2<=n)(hU:U<Bw^(n+1))(hD:D<Bw^n)(h1:dig D (n - 1)≠0)(hlt:U<D*Bw):
  Top U D (Bw^(n - 2)) (dig U n*4294967296+dig U (n - 1)) 0 (dig U (n - 2)) (dig D (n - 1)) (dig D (n - 2)):=by
 obtain⟨m,rfl⟩:∃m,n=m+2:=⟨n - 2,by omega⟩
 rw[show m+2 - 1=m+1 by omega,show m+2 - 2=m by omega]at*
 have u0:=zbV hU
 have d0:=zbV hD
 rw[show m+2+1=(m+2)+1 from rfl,zaQ,show m+2=(m+1)+1 from rfl,zaQ,zaQ]at u0
 rw[show m+2=(m+1)+1 from rfl,zaQ,zaQ]at d0
 refine⟨⟨U%Bw^m,?_,Nat.mod_lt _ (zag m)⟩,⟨D%Bw^m,?_,Nat.mod_lt _ (zag m)⟩,Nat.pos_of_ne_zero h1,zav _ _,zav _ _,zav _ _,rfl,hlt⟩
 ·rw[show Bw^(m+1+1)=Bw^m*Bw*Bw from by rw[Nat.pow_succ,Nat.pow_succ],show Bw^(m+1)=Bw^m*Bw from Nat.pow_succ _ _,za4]at u0
  rw[Nat.add_mul,Nat.add_mul,Nat.add_mul]
  rw[show m+1+1=m+2 from rfl]at u0
  have e1:4294967296^m*4294967296*4294967296*dig U (m+2)=dig U (m+2)*4294967296*4294967296*4294967296^m:=by ac_rfl
  have e2:4294967296^m*4294967296*dig U (m+1)=dig U (m+1)*4294967296*4294967296^m:=by ac_rfl
  have e3:4294967296^m*dig U m=dig U m*4294967296^m:=Nat.mul_comm _ _
  rw[e1,e2,e3]at u0
  rw[za4]
  omega
 ·rw[show Bw^(m+1)=Bw^m*Bw from Nat.pow_succ _ _,za4]at d0
  rw[Nat.add_mul]
  have e2:4294967296^m*4294967296*dig D (m+1)=dig D (m+1)*4294967296*4294967296^m:=by ac_rfl
  have e3:4294967296^m*dig D m=dig D m*4294967296^m:=Nat.mul_comm _ _
  rw[e2,e3]at d0
  rw[za4]
  omega
theorem zpZ {V D i R:Nat}(hD:0<D)(hR:R=V%(D*Bw^(i+1))):
  R/Bw^i<D*Bw/\R/Bw^i/D=dig (V/D) i/\R=V%(D*Bw^i)+dig (V/D) i*Bw^i*D/\V%(D*Bw^i)<Bw^i*D:=by
 have hp:=zag i
 have hDp:0<D*Bw^i:=Nat.mul_pos hD hp
 have e0:D*Bw^(i+1)=D*Bw^i*Bw:=by rw[Nat.pow_succ,Nat.mul_assoc]
 have e1:R/(D*Bw^i)=dig (V/D) i:=by
  rw[hR,e0,Nat.mod_mul_right_div_self,<-Nat.div_div_eq_div_mul]
  rfl
 have e2:R%(D*Bw^i)=V%(D*Bw^i):=by rw[hR,e0,Nat.mod_mul_right_mod]
 refine⟨?_,?_,?_,by rw[Nat.mul_comm (Bw^i)];exact Nat.mod_lt _ hDp⟩
 ·rw[Nat.div_lt_iff_lt_mul hp,Nat.mul_assoc,Nat.mul_comm Bw,<-Nat.mul_assoc,hR,e0]
  exact Nat.mod_lt _ (Nat.mul_pos hDp zb9)
 ·rw[Nat.div_div_eq_div_mul,Nat.mul_comm (Bw^i)];exact e1
 ·rw[<-e1,<-e2,Nat.mul_assoc,Nat.mul_comm (Bw^i) D,Nat.mul_comm (R/_)]
  exact(Nat.mod_add_div R _).symm
theorem zn4 {R X qt q Z D b P O':Nat}(hR:R=X+qt*Z*D)(h1:qt<=q)(hq:q<=qt+1)(hX:X<Z*D)(ht:O'+q*Z*D=R+b*P)(h0:b=0):q=qt/\O'=X:=by
 subst h0
 rcases zv6 qt q with h|h
 ·obtain rfl:q=qt+1:=by omega
  rw[Nat.add_mul,Nat.add_mul,Nat.one_mul]at ht
  omega
 ·obtain rfl:q=qt:=by omega
  exact⟨rfl,by omega⟩
theorem zn5 {R X qt q Z D b P O':Nat}(hR:R=X+qt*Z*D)(h1:qt<=q)(hq:q<=qt+1)(hO:O'<P)(hb:b<=1)(ht:O'+q*Z*D=R+b*P)(h0:0<b):q=qt+1/\O'+Z*D=X+P:=by
 obtain rfl:b=1:=by omega
 rcases zv6 qt q with h|h
 ·obtain rfl:q=qt+1:=by omega
  rw[Nat.add_mul,Nat.add_mul,Nat.one_mul]at ht
  exact⟨rfl,by omega⟩
 ·obtain rfl:q=qt:=by omega
  omega
theorem zp0 {X O' D i m:Nat}(h:O'+Bw^i*D=X+Bw^(i+m))(hX:X<Bw^(i+m)):Bw^m<=O'/Bw^i+D/\O'%Bw^i+Bw^i*((O'/Bw^i+D)%Bw^m)=X:=by
 have hp:=zag i
 have e1:O'/Bw^i+D=X/Bw^i+Bw^m:=by
  rw[<-Nat.add_mul_div_left _ _ hp,h,Nat.pow_add,Nat.add_mul_div_left _ _ hp]
 have e2:O'%Bw^i=X%Bw^i:=by
  rw[<-Nat.add_mul_mod_self_left O' (Bw^i) D,h,Nat.pow_add,Nat.add_mul_mod_self_left]
 refine⟨by rw[e1];exact Nat.le_add_left _ _,?_⟩
 have e3:X/Bw^i<Bw^m:=by rw[Nat.div_lt_iff_lt_mul hp,Nat.mul_comm,<-Nat.pow_add];exact hX
 rw[e1,Nat.add_mod_right,Nat.mod_eq_of_lt e3,e2,Nat.mod_add_div]
end
section
open Go Go.RowKit
def zee (N s:Nat):Nat:=N/2^s%2
theorem zmV (N s:Nat):zee N s<2:=Nat.mod_lt _ (by omega)
theorem ziy (N s:Nat):N/2^s=2*(N/2^(s+1))+zee N s:=by
 unfold zee
 rw[Nat.pow_succ,<-Nat.div_div_eq_div_mul]
 omega
theorem zrZ {N p t:Nat}(ht:t<32):dig N p/2^t%2=zee N (32*p+t):=by
 unfold zee dig
 rw[Nat.pow_add,<-zbo,<-Nat.div_div_eq_div_mul]
 obtain⟨X,hX⟩:∃X,N/Bw^p=X:=⟨_,rfl⟩
 rw[hX]
 have hB:Bw=2^t*(2*2^(31 - t)):=by
  rw[<-Nat.pow_succ',<-Nat.pow_add,show t+(31 - t+1)=32 from by omega]
  rfl
 have h:=Nat.div_add_mod X Bw
 obtain⟨y,hy⟩:∃y,X%Bw=y:=⟨_,rfl⟩
 obtain⟨z,hz⟩:∃z,X/Bw=z:=⟨_,rfl⟩
 rw[hy,hz]at h
 rw[hy,<-h]
 conv=>rhs;rw[hB,show 2^t*(2*2^(31 - t))*z=2^t*(2*(2^(31 - t)*z))from by ac_rfl,Nat.mul_add_div (zv8 t)]
 omega
theorem zkA {N M s Q R:Nat}(hM:0<M)(hQ:N/2^(s+1)/M=Q)(hR:N/2^(s+1)%M=R)(h:2*R+zee N s<M):N/2^s/M=2*Q/\N/2^s%M=2*R+zee N s:=by
 have e:N/2^s=(2*R+zee N s)+M*(2*Q):=by
  have h1:=Nat.div_add_mod (N/2^(s+1)) M
  rw[hQ,hR]at h1
  have h2:=ziy N s
  have h3:M*(2*Q)=2*(M*Q):=by ac_rfl
  omega
 rw[e,Nat.add_mul_div_left _ _ hM,Nat.add_mul_mod_self_left,Nat.div_eq_of_lt h,Nat.mod_eq_of_lt h]
 exact⟨by omega,rfl⟩
theorem zkB {N M s Q R:Nat}(hM:0<M)(hQ:N/2^(s+1)/M=Q)(hR:N/2^(s+1)%M=R)(h:M<=2*R+zee N s):N/2^s/M=2*Q+1/\N/2^s%M=2*R+zee N s - M:=by
 have hRM:R<M:=by rw[<-hR];exact Nat.mod_lt _ hM
 have hb:=zmV N s
 have e:N/2^s=(2*R+zee N s - M)+M*(2*Q+1):=by
  have h1:=Nat.div_add_mod (N/2^(s+1)) M
  rw[hQ,hR]at h1
  have h2:=ziy N s
  have h3:M*(2*Q+1)=2*(M*Q)+M:=by rw[Nat.mul_add,Nat.mul_one];congr 1;ac_rfl
  omega
 have hl:2*R+zee N s - M<M:=by omega
 rw[e,Nat.add_mul_div_left _ _ hM,Nat.add_mul_mod_self_left,Nat.div_eq_of_lt hl,Nat.mod_eq_of_lt hl]
 exact⟨by omega,rfl⟩
theorem ziz {N M n:Nat}(h:N<Bw^n)(hM:0<M):N/Bw^(n+1 - lenL M)<M:=by
 obtain⟨m,hm⟩:∃m,lenL M=m+1:=⟨lenL M - 1,by have:=mt zbF.1 (show M≠0 by omega);omega⟩
 have h1:Bw^m<=M:=by
  rcases zv6 M (Bw^m)with h2|h2
  ·have:=zai.2 h2;omega
  ·exact h2
 refine zv3 ?_ h1
 rw[hm,Nat.div_lt_iff_lt_mul (zag _),<-zaY]
 exact zaz h (by omega)
theorem ztN {d t:Nat}(ht:t<32)(h:∃k,d=k*2^(t+1))(hd:d<4294967296):bits BinOp.or IntKind.u32 (d:Int) ((2^t:Nat):Int)=((d+2^t:Nat):Int):=by
 obtain⟨k,rfl⟩:=h
 have h1:(2:Nat)^t<2^(t+1):=Nat.pow_lt_pow_right (by omega) (by omega)
 have h2:(2:Nat)^t<=2^31:=zv5 (by omega) (by omega)
 rw[u32_or_nat _ _ (by omega) (by omega),show k*2^(t+1)=k <<< (t+1)from by rw[Nat.shiftLeft_eq],Nat.shiftLeft_add_eq_or_of_lt h1]
theorem zr0 {K p t:Nat}(ht:t<32):∃k,dig (2^(32*p+t+1)*K) p=k*2^(t+1)/\k*2^(t+1)+2^t<4294967296:=by
 have hB:Bw=2^(t+1)*2^(31 - t):=by
  rw[<-Nat.pow_add,show t+1+(31 - t)=32 from by omega]
  rfl
 refine⟨K%2^(31 - t),?_,?_⟩
 ·unfold dig
  rw[show 32*p+t+1=32*p+(t+1)from by omega,Nat.pow_add,<-zbo,Nat.mul_assoc,Nat.mul_div_cancel_left _ (zag p),hB,Nat.mul_mod_mul_left,Nat.mul_comm]
 ·have h1:K%2^(31 - t)+1<=2^(31 - t):=Nat.mod_lt _ (zv8 _)
  have h2:=Nat.mul_le_mul_left (2^(t+1)) h1
  rw[<-hB,za4,Nat.mul_add,Nat.mul_one,Nat.mul_comm]at h2
  have h3:(2:Nat)^t<2^(t+1):=Nat.pow_lt_pow_right (by omega) (by omega)
  omega
theorem zr1 {O O' Q p t:Nat}(h:O'+dig O p*Bw^p=O+(dig O p+2^t)*Bw^p)(hO:O=2^(32*p+t+1)*Q):O'=2^(32*p+t)*(2*Q+1):=by
 have e:2^(32*p+t)=2^t*Bw^p:=by rw[Nat.pow_add,<-zbo,Nat.mul_comm]
 have e2:2^(32*p+t+1)*Q=2^(32*p+t)*(2*Q):=by rw[Nat.pow_succ];ac_rfl
 rw[Nat.add_mul]at h
 rw[Nat.mul_add,Nat.mul_one,<-e2,<-hO,e]
 omega
theorem zp1 {N p t:Nat}(ht:t<32):bits BinOp.and IntKind.u32 ((dig N p:Int)/2^t) 1=((zee N (32*p+t):Nat):Int):=by
 have h1:=zav N p
 have h2:dig N p/2^t<=dig N p:=Nat.div_le_self _ _
 have e:(dig N p:Int)/2^t=((dig N p/2^t:Nat):Int):=by rw[Int.natCast_ediv,Int.natCast_pow];rfl
 rw[e]
 have h3:=u32_and_nat (dig N p/2^t) 1 (by omega) (by omega)
 rw[Nat.and_one_is_mod,zrZ ht]at h3
 exact h3
theorem zmW {W:World}{g n O p t Q:Nat}(ht:t<32)(hp:p<n)(hB:Buf W g n O)(hO:O<Bw^n)(hQ:O=2^(32*p+t+1)*Q):
  ∃O',Buf (W.setCell ⟨g,p,none⟩ (.int .u32 (bits BinOp.or IntKind.u32 (dig O p:Int) (2^t%4294967296)))) g n O'/\O'<Bw^n/\O'=2^(32*p+t)*(2*Q+1):=by
 obtain⟨k,hk,hk2⟩:=zr0 (K:=Q) (p:=p) ht
 rw[<-hQ]at hk
 have e1:((2:Int)^t%4294967296)=((2^t:Nat):Int):=by
  have h1:(2:Nat)^t<=2^31:=zv5 (by omega) (by omega)
  have h2:((2:Int)^t)=((2^t:Nat):Int):=by rw[Int.natCast_pow];rfl
  rw[h2]
  obtain⟨q,hq⟩:∃q:Nat,2^t=q:=⟨_,rfl⟩
  rw[hq]at h1 ⊢
  omega
 rw[e1,ztN ht ⟨k,hk⟩ (zav O p)]
 obtain⟨O',h1,h2,h3⟩:=hB.set (p:=p) (x:=dig O p+2^t) hO hp (by rw[hk];exact hk2)
 exact⟨O',h1,h2,zr1 h3 hQ⟩
end
end Go.Proofs.YtipckjmgdghkiaaGreatDoor
