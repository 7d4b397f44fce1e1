/- A part. -/
import Derived.KernelRfl
import Derived.Below
import Derived.Laws.OwnMore
import Derived.Laws.Rows
import Derived.Deep.AppendLies
import Derived.Deep.Draws
import Derived.Maps.AppendAt
import Derived.RegionTactic
import Derived.OwnWalk
import Derived.BigFrame
import Derived.RangeFuncNested
import Derived.RangeFuncBound
import Derived.RangeFuncCalls
import Derived.RangeFuncLeaves
import Derived.WalkMore
import Derived.RangeFuncBox
import Derived.Shelf.Abstract
import Derived.Shelf.RegionOpen
import Derived.OwnWalkIn
import Derived.TacticsInMore
import Derived.Stop.RegionWithIn
namespace Go.Proofs.YtipckjmgdghkiaaGreatDoor
section
open Go Go.RowKit
theorem zvZ {m k:Nat}(h:Nat.ble m k=true):m<=k:=Nat.le_of_ble_eq_true h
theorem zv0 {n:Nat}:n<=n:=Nat.le_refl n
theorem zv1 {n:Nat}{w:World}:Below n w w:=Below.refl n w
theorem zv2 {a b c:Nat}(h:a<=b)(h2:b<=c):a<=c:=Nat.le_trans h h2
theorem zv3 {a b c:Nat}(h:a<b)(h2:b<=c):a<c:=Nat.lt_of_lt_of_le h h2
theorem zv4 {a b c:Nat}(h:a<=b)(h2:b<c):a<c:=Nat.lt_of_le_of_lt h h2
theorem zv5 {n m k:Nat}(h:n>0)(h2:m<=k):n^m<=n^k:=Nat.pow_le_pow_right h h2
theorem zv6 (a b:Nat):a<b\/a≥b:=Nat.lt_or_ge a b
theorem zv7 (n:Nat):n=0\/0<n:=Nat.eq_zero_or_pos n
theorem zv8 (n:Nat):0<2^n:=Nat.two_pow_pos n
theorem zv9 (b:Bool):b=true\/b=false:=Bool.eq_false_or_eq_true b
end
theorem zvY {a:Prop}(h:a):RowKit.Hid a:=h
def Bw:Nat:=4294967296
theorem za4:Bw=4294967296:=rfl
theorem zb9:0<Bw:=by decide
theorem zag (n:Nat):0<Bw^n:=Nat.pow_pos zb9
def dig (N j:Nat):Nat:=N/Bw^j%Bw
theorem zav (N j:Nat):dig N j<4294967296:=Nat.mod_lt _ zb9
theorem zbI (j:Nat):dig 0 j=0:=by simp[dig]
theorem zbN {N n j:Nat}(h:N<Bw^n)(hj:n<=j):dig N j=0:=by
 have:N<Bw^j:=zv3 h (zv5 zb9 hj)
 simp[dig,Nat.div_eq_of_lt this]
theorem zaQ (N k:Nat):N%Bw^(k+1)=N%Bw^k+Bw^k*dig N k:=by
 rw[Nat.pow_succ,Nat.mod_mul];rfl
theorem zd7 {N M n:Nat}(hN:N<Bw^n)(hM:M<Bw^n)(h:∀j,j<n->dig N j=dig M j):N=M:=by
 have key:∀k,k<=n->N%Bw^k=M%Bw^k:=by
  intro k
  induction k with
  |zero=>intro _;simp[Nat.mod_one]
  |succ k ih=>intro hk;rw[zaQ,zaQ,ih (by omega),h k (by omega)]
 have:=key n zv0
 rwa [Nat.mod_eq_of_lt hN,Nat.mod_eq_of_lt hM]at this
theorem zez {N x n:Nat}(hN:N<Bw^n)(hx:x<Bw)(j:Nat)(hj:j<=n):dig (N+Bw^n*x) j=if j=n then x else dig N j:=by
 unfold dig
 split
 ·subst j
  rw[Nat.add_mul_div_left _ _ (zag n),Nat.div_eq_of_lt hN,Nat.zero_add,Nat.mod_eq_of_lt hx]
 ·have hlt:j<n:=by omega
  obtain⟨d,rfl⟩:∃d,n=j+(d+1):=⟨n - j - 1,by omega⟩
  rw[Nat.pow_add,Nat.mul_assoc,Nat.add_mul_div_left _ _ (zag j),Nat.pow_succ,Nat.mul_comm (Bw^d) Bw,Nat.mul_assoc,Nat.add_mul_mod_self_left]
theorem zfF (n:Nat)(x:Nat->Nat)(h:∀j,j<n->x j<Bw):∃N,N<Bw^n/\∀j,j<n->x j=dig N j:=by
 induction n with
 |zero=>exact⟨0,by simp,fun j hj=>by omega⟩
 |succ n ih=>
  obtain⟨N,hN,hd⟩:=ih (fun j hj=>h j (by omega))
  have hx:=h n (by omega)
  refine⟨N+Bw^n*x n,?_,fun j hj=>?_⟩
  ·rw[Nat.pow_succ]
   have:Bw^n*(x n+1)<=Bw^n*Bw:=Nat.mul_le_mul_left _ hx
   rw[Nat.mul_add,Nat.mul_one]at this
   omega
  ·rw[zez hN hx j (by omega)]
   split
   ·subst j;rfl
   ·exact hd j (by omega)
def car (D V k:Nat):Nat:=(D%Bw^k+V%Bw^k)/Bw^k
theorem zfG (D V:Nat):car D V 0=0:=by simp[car,Nat.mod_one]
theorem zgb (D V k:Nat):car D V k<=1:=by
 unfold car
 have h1:=Nat.mod_lt D (zag k)
 have h2:=Nat.mod_lt V (zag k)
 have:(D%Bw^k+V%Bw^k)/Bw^k<2:=Nat.div_lt_of_lt_mul (by omega)
 omega
theorem zpp (D V k:Nat):car D V (k+1)=(dig D k+dig V k+car D V k)/Bw:=by
 unfold car
 rw[zaQ,zaQ,Nat.pow_succ,<-Nat.div_div_eq_div_mul]
 congr 1
 rw[show D%Bw^k+Bw^k*dig D k+(V%Bw^k+Bw^k*dig V k)=D%Bw^k+V%Bw^k+Bw^k*(dig D k+dig V k)from by rw[Nat.mul_add];omega,
  Nat.add_mul_div_left _ _ (zag k)]
 omega
theorem zmH (D V k:Nat):(D+V)/Bw^k=D/Bw^k+V/Bw^k+car D V k:=by
 unfold car
 have h1:=Nat.div_add_mod D (Bw^k)
 have h2:=Nat.div_add_mod V (Bw^k)
 have:D+V=(D%Bw^k+V%Bw^k)+Bw^k*(D/Bw^k+V/Bw^k):=by rw[Nat.mul_add];omega
 rw[this,Nat.add_mul_div_left _ _ (zag k)]
 rw[Nat.add_comm]
theorem zi3 (D V k:Nat):dig (D+V) k=(dig D k+dig V k+car D V k)%Bw:=by
 unfold dig
 rw[zmH,Nat.add_mod,Nat.add_mod (D/Bw^k)]
 simp[Nat.add_mod]
theorem zgY (D V k:Nat):dig D k+dig V k+car D V k=dig (D+V) k+4294967296*car D V (k+1):=by
 rw[zi3,zpp,za4]
 exact(Nat.mod_add_div _ _).symm
theorem zpq {D V k:Nat}(hV:V<Bw^k)(hc:car D V k=0){j:Nat}(hj:k<=j):dig (D+V) j=dig D j:=by
 obtain⟨d,rfl⟩:∃d,j=k+d:=⟨j - k,by omega⟩
 unfold dig
 rw[Nat.pow_add,<-Nat.div_div_eq_div_mul,<-Nat.div_div_eq_div_mul,zmH,hc,Nat.div_eq_of_lt hV]
 rfl
def lenL (N:Nat):Nat:=if N=0 then 0 else N.log2/32+1
theorem zbo (n:Nat):Bw^n=2^(32*n):=by rw[Nat.pow_mul];rfl
theorem zai {N n:Nat}:lenL N<=n↔N<Bw^n:=by
 unfold lenL
 rw[zbo]
 split
 ·next h=>subst h;simp[Nat.pow_pos]
 ·next h=>rw[<-Nat.log2_lt h];omega
theorem zaF (N:Nat):N<Bw^lenL N:=zai.1 zv0
theorem zaS:lenL 0=0:=rfl
theorem zbF {N:Nat}:lenL N=0↔N=0:=by unfold lenL;split <;> simp_all
theorem zdC {N k:Nat}(h:N<Bw^(k+1))(hd:dig N k=0):N<Bw^k:=by
 rw[<-Nat.mod_eq_of_lt h,zaQ,hd]
 simpa using Nat.mod_lt _ (zag k)
theorem zi4 {N k:Nat}(h:N<Bw^(k+1))(hd:dig N k≠0):lenL N=k+1:=by
 have h1:=zai.2 h
 rcases zv6 k (lenL N)with h2|h2
 ·omega
 ·exact absurd (zbN (zai.1 h2) (Nat.le_refl k)) hd
theorem zgZ {N k:Nat}(h:lenL N=k+1):dig N k≠0:=fun hd=>by
 have:=zai.2 (zdC (h▸zaF N) hd)
 omega
theorem zaG {N M:Nat}(h:N<=M):lenL N<=lenL M:=zai.2 (zv4 h (zaF M))
theorem zlA {N M n k:Nat}(hN:N<Bw^n)(hM:M<Bw^n)(hs:∀j,k<j->dig N j=dig M j)(hl:dig N k<dig M k):N<M:=by
 have h1:N/Bw^(k+1)=M/Bw^(k+1):=by
  refine zd7 (n:=n) (zv4 (Nat.div_le_self _ _) hN) (zv4 (Nat.div_le_self _ _) hM) (fun j _=>?_)
  have:=hs (k+1+j) (by omega)
  unfold dig at this ⊢
  rwa [Nat.pow_add,<-Nat.div_div_eq_div_mul,<-Nat.div_div_eq_div_mul]at this
 have e1:=Nat.div_add_mod N (Bw^(k+1))
 have e2:=Nat.div_add_mod M (Bw^(k+1))
 rw[zaQ,h1]at e1
 rw[zaQ]at e2
 have h2:=Nat.mod_lt N (zag k)
 have h3:Bw^k*(dig N k+1)<=Bw^k*dig M k:=Nat.mul_le_mul_left _ hl
 rw[Nat.mul_add,Nat.mul_one]at h3
 generalize M%Bw^k=i at e2
 generalize N%Bw^k=g at e1 h2
 omega
theorem zdD {N M n m k:Nat}(hN:N<Bw^n)(hM:M<Bw^m)(hs:∀j,k<j->dig N j=dig M j)(hl:dig N k<dig M k):N<M:=
 zlA (n:=max n m) (zv3 hN (zv5 zb9 (Nat.le_max_left _ _))) (zv3 hM (zv5 zb9 (Nat.le_max_right _ _))) hs hl
theorem zgF {N M n m:Nat}(hN:N<Bw^n)(hM:M<Bw^m)(h:∀j,dig N j=dig M j):N=M:=
 zd7 (n:=max n m) (zv3 hN (zv5 zb9 (Nat.le_max_left _ _))) (zv3 hM (zv5 zb9 (Nat.le_max_right _ _))) (fun j _=>h j)
theorem znG {N:Nat}(h:N<Bw^2):dig N 1*4294967296+dig N 0=N:=by
 have h1:dig N 1=N/4294967296:=by
  unfold dig
  rw[Nat.pow_one,Nat.mod_eq_of_lt]
  ·rfl
  ·rw[Nat.pow_two]at h;exact Nat.div_lt_of_lt_mul h
 have h0:dig N 0=N%4294967296:=by simp[dig,Bw]
 rw[h1,h0];omega
section
open Go Go.RowKit
theorem zaM (a:Addr)(n:Nat):(a.add n).block=a.block:=by unfold Addr.add;split <;> rfl
theorem zaW (g j:Nat):(⟨g,0,none⟩:Addr).add j=⟨g,j,none⟩:=by
 unfold Addr.add;split <;> simp_all
def Rd (W:World)(hi:Nat)(A:Option Addr)(n N:Nat):Prop:=
 N<Bw^n/\(0<n->∃ad:Addr,A=some ad/\ad.block<hi/\∀j,j<n->W.cell? (ad.add j)=some (.int .u32 (dig N j:Nat)))
def Fr (W:World)(lo hi:Nat)(A:Option Addr)(n N:Nat):Prop:=
 N<Bw^n/\(0<n->∃g,A=some ⟨g,0,none⟩/\lo<=g/\g<hi/\∀j,j<n->W.cell? ⟨g,j,none⟩=some (.int .u32 (dig N j:Nat))/\W.frozen? ⟨g,j,none⟩=false)
section
variable {W W':World}{lo hi hi' n N:Nat}{A:Option Addr}
theorem Rd.none_:Rd W hi A 0 0:=⟨by simp,fun h=>absurd h (by omega)⟩
theorem Rd.at_ {k:Nat}(h:Rd W hi A n N)(hk:k<n):∃ad:Addr,A=some ad/\ad.block<hi/\W.cell? (ad.add k)=some (.int .u32 (dig N k:Nat)):=by
 obtain⟨ad,e,hb,hc⟩:=h.2 (by omega)
 exact⟨ad,e,hb,hc k hk⟩
theorem Rd.keep (h:Rd W hi A n N)(hk:∀p:Addr,p.block<hi->W'.cell? p=W.cell? p):Rd W' hi A n N:=
 ⟨h.1,fun hn=>by
  obtain⟨ad,e,hb,hc⟩:=h.2 hn
  exact⟨ad,e,hb,fun j hj=>(hk _ (by rw[zaM];exact hb)).trans (hc j hj)⟩⟩
theorem Rd.more (h:Rd W hi A n N)(hh:hi<=hi'):Rd W hi' A n N:=
 ⟨h.1,fun hn=>by
  obtain⟨ad,e,hb,hc⟩:=h.2 hn
  exact⟨ad,e,by omega,hc⟩⟩
theorem Rd.below (h:Rd W hi A n N)(hb:Below hi W W'):Rd W' hi A n N:=h.keep fun _ hp=>hb.cell hp
theorem Rd.down {k:Nat}(h:Rd W hi A n N)(hk:k<=n)(hN:N<Bw^k):Rd W hi A k N:=
 ⟨hN,fun hn=>by
  obtain⟨ad,e,hb,hc⟩:=h.2 (by omega)
  exact⟨ad,e,hb,fun j hj=>hc j (by omega)⟩⟩
theorem Fr.rd (h:Fr W lo hi A n N):Rd W hi A n N:=
 ⟨h.1,fun hn=>by
  obtain⟨g,e,_,hb,hc⟩:=h.2 hn
  exact⟨_,e,hb,fun j hj=>by rw[zaW];exact(hc j hj).1⟩⟩
theorem Fr.keep (h:Fr W lo hi A n N)(hb:Below hi W W'):Fr W' lo hi A n N:=
 ⟨h.1,fun hn=>by
  obtain⟨g,e,hl,hh,hc⟩:=h.2 hn
  exact⟨g,e,hl,hh,fun j hj=>⟨(hb.cell (p:=⟨g,j,none⟩) hh).trans (hc j hj).1,(hb.frozen (p:=⟨g,j,none⟩) hh).trans (hc j hj).2⟩⟩⟩
theorem Fr.more (h:Fr W lo hi A n N)(hh:hi<=hi'):Fr W lo hi' A n N:=
 ⟨h.1,fun hn=>by
  obtain⟨g,e,hl,hb,hc⟩:=h.2 hn
  exact⟨g,e,hl,by omega,hc⟩⟩
theorem Fr.from {lo':Nat}(h:Fr W lo hi A n N)(hh:lo'<=lo):Fr W lo' hi A n N:=
 ⟨h.1,fun hn=>by
  obtain⟨g,e,hl,hb,hc⟩:=h.2 hn
  exact⟨g,e,by omega,hb,hc⟩⟩
theorem Fr.down {k:Nat}(h:Fr W lo hi A n N)(hk:k<=n)(hN:N<Bw^k):Fr W lo hi A k N:=
 ⟨hN,fun hn=>by
  obtain⟨g,e,hl,hb,hc⟩:=h.2 (by omega)
  exact⟨g,e,hl,hb,fun j hj=>hc j (by omega)⟩⟩
theorem Fr.nil:Fr W lo hi none 0 0:=⟨by simp,fun h=>absurd h (by omega)⟩
end
theorem World.alloc_heap_new' (w:World)(o:Obj):(w.alloc o).heap[w.heap.size]?=some o:=heap_alloc_new w o
theorem Fr.of_own {W:World}{base N n:Nat}{e:TypeId}{v:Value}{xs:List Value}(h:W.ownsRow base e 1 v n xs)(hN:N<Bw^n)(hx:∀j,j<n->xs[j]?=some (.int .u32 (dig N j:Nat))):
  ∃A c,v= .slice A n c/\n<=c/\c<=maxLen/\Fr W base W.heap.size A n N:=by
 rcases zv7 n with rfl|hn
 ·rcases h.2 with⟨rfl,_⟩|⟨g,cap,cur,rfl,_,_,_,hm,_⟩
  ·exact⟨none,0,rfl,Nat.le_refl _,by simp[maxLen],hN,fun h=>absurd h (by omega)⟩
  ·exact⟨_,cap,rfl,Nat.zero_le _,hm,hN,fun h=>absurd h (by omega)⟩
 ·rcases h.2 with⟨_,h0⟩|⟨g,cap,cur,rfl,hb,hg,hc,hm,_⟩
  ·omega
  ·refine⟨_,cap,rfl,hc,hm,hN,fun _=>⟨g,rfl,hb,(Array.getElem?_eq_some_iff.1 hg).1,fun j hj=>⟨?_,h.frozenAt j⟩⟩⟩
   rw[h.cellAt j (by omega)]
   exact hx j hj
theorem Fr.lit {w:World}{lo N n:Nat}{t:TypeId}{cs:Array Value}(hlo:lo<=w.heap.size)(hN:N<Bw^n)(hx:∀j,j<n->cs[j]?=some (.int .u32 (dig N j:Nat))):
  Fr (w.alloc (.cells cs t)) lo (w.heap.size+1) (some ⟨w.heap.size,0,none⟩) n N:=
 ⟨hN,fun _=>⟨_,rfl,hlo,by omega,fun j hj=>⟨by
  have h:=World.alloc_heap_new' w (.cells cs t)
  simp only[World.cell?,h]
  simpa using hx j hj,by
  have h:=World.alloc_heap_new' w (.cells cs t)
  unfold World.frozen?
  rw[h]
  simp⟩⟩⟩
def zfm (N:Nat)(A:Option Addr):Option Addr:=if N=0 then none else A
theorem ziq (A:Option Addr):zfm 0 A=none:=rfl
theorem zdW {N:Nat}(h:N≠0)(A:Option Addr):zfm N A=A:=by simp[zfm,h]
theorem Rd.cut {W:World}{hi n N:Nat}{A:Option Addr}(h:Rd W hi A n N):Rd W hi (zfm N A) (lenL N) N:=by
 by_cases h0:N=0
 ·subst h0;exact Rd.none_
 ·rw[zdW h0];exact h.down (zai.2 h.1) (zaF N)
theorem Fr.cut {W:World}{lo hi n N:Nat}{A:Option Addr}(h:Fr W lo hi A n N):Fr W lo hi (zfm N A) (lenL N) N:=by
 by_cases h0:N=0
 ·subst h0;exact Fr.nil
 ·rw[zdW h0];exact h.down (zai.2 h.1) (zaF N)
theorem zde {k:IntKind}{a b:Int}(h:a=b):Ending.returned (.int k a)= .returned (.int k b):=by rw[h]
structure Num where
 A:Option Addr
 n:Nat
 c:Nat
 N:Nat
def Num.ok (W:World)(hi:Nat)(x:Num):Prop:=Rd W hi x.A x.n x.N/\x.n<=x.c/\x.c<=maxLen/\x.n<=35184372087808
def Rds (W:World)(hi:Nat)(A:Option Addr)(l:List Num):Prop:=
 ∀k (h:k<l.length),(∃ad:Addr,A=some ad/\ad.block<hi/\W.cell? (ad.add k)=some (.slice l[k].A l[k].n l[k].c))/\l[k].ok W hi
theorem Num.ok.below {W W':World}{hi:Nat}{x:Num}(h:x.ok W hi)(hb:Below hi W W'):x.ok W' hi:=⟨h.1.below hb,h.2⟩
theorem Num.ok.more {W:World}{hi hi':Nat}{x:Num}(h:x.ok W hi)(hb:hi<=hi'):x.ok W hi':=⟨h.1.more hb,h.2⟩
theorem Rds.below {W W':World}{hi:Nat}{A:Option Addr}{l:List Num}(h:Rds W hi A l)(hb:Below hi W W'):Rds W' hi A l:=fun k hk=>by
 obtain⟨⟨ad,e,h1,h2⟩,h3⟩:=h k hk
 exact⟨⟨ad,e,h1,(hb.cell (p:=ad.add k) (by rw[zaM];exact h1)).trans h2⟩,h3.below hb⟩
theorem Rds.more {W:World}{hi hi':Nat}{A:Option Addr}{l:List Num}(h:Rds W hi A l)(hh:hi<=hi'):Rds W hi' A l:=fun k hk=>by
 obtain⟨⟨ad,e,h1,h2⟩,h3⟩:=h k hk
 exact⟨⟨ad,e,by omega,h2⟩,h3.more hh⟩
def zbO (l:List Num):Nat:=(l.map Num.N).sum
def longestN (l:List Num):Nat:=l.foldl (fun m x=>max m (lenL x.N)) 0
theorem zgG (l l':List Num):zbO (l++l')=zbO l+zbO l':=by simp[zbO]
theorem znH {l:List Num}{k:Nat}(h:k<l.length):zbO (l.take (k+1))=zbO (l.take k)+l[k].N:=by
 rw[List.take_succ_eq_append_getElem h,zgG]
 simp[zbO]
theorem zh3 {l:List Num}{k:Nat}(h:k<l.length):longestN (l.take (k+1))=max (longestN (l.take k)) (lenL l[k].N):=by
 rw[List.take_succ_eq_append_getElem h]
 unfold longestN
 rw[List.foldl_append]
 rfl
theorem zi5 (l:List Num)(m:Nat):m<=l.foldl (fun m x=>max m (lenL x.N)) m/\∀x∈l,lenL x.N<=l.foldl (fun m x=>max m (lenL x.N)) m:=by
 induction l generalizing m with
 |nil=>simp
 |cons y l ih=>
  simp only[List.foldl_cons]
  obtain⟨h1,h2⟩:=ih (max m (lenL y.N))
  refine⟨by omega,fun x hx=>?_⟩
  rcases List.mem_cons.1 hx with rfl|hx
  ·omega
  ·exact h2 x hx
theorem zi6 {l:List Num}{b:Nat}(h:∀x∈l,lenL x.N<=b)(m:Nat)(hm:m<=b):l.foldl (fun m x=>max m (lenL x.N)) m<=b:=by
 induction l generalizing m with
 |nil=>simpa
 |cons y l ih=>
  simp only[List.foldl_cons]
  have:=h y (by simp)
  exact ih (fun x hx=>h x (by simp[hx])) _ (by omega)
theorem zke {l:List Num}{b:Nat}(h:∀x∈l,lenL x.N<=b):longestN l<=b:=zi6 h 0 (Nat.zero_le _)
theorem zmI {l:List Num}{B:Nat}(h:∀x∈l,x.N<=B):zbO l<=l.length*B:=by
 induction l with
 |nil=>simp[zbO]
 |cons y l ih=>
  have h1:=h y (by simp)
  have h2:=ih (fun x hx=>h x (by simp[hx]))
  simp only[zbO,List.map_cons,List.sum_cons,List.length_cons]at h2 ⊢
  rw[Nat.add_mul,Nat.one_mul]
  omega
theorem zrJ {l:List Num}(hl:l.length<=100000000000000):zbO l<Bw^(longestN l+2):=by
 have h1:zbO l<=l.length*Bw^longestN l:=zmI (fun x hx=>Nat.le_of_lt (zv3 (zaF x.N) (zv5 zb9 ((zi5 l 0).2 x hx))))
 have h2:l.length*Bw^longestN l<Bw^2*Bw^longestN l:=Nat.mul_lt_mul_of_pos_right (by
  have:Bw^2=18446744073709551616:=by decide
  omega) (zag _)
 rw[Nat.pow_add,Nat.mul_comm (Bw^longestN l)]
 omega
theorem zi7 (l:List Num)(k:Nat):zbO (l.take k)<=zbO l:=by
 have h:zbO l=zbO (l.take k)+zbO (l.drop k):=by rw[<-zgG,List.take_append_drop]
 omega
def longAt (l:List Num)(k:Nat):Nat:=longestN (l.take k)
theorem zkf {l:List Num}{k:Nat}(h:k<l.length):longAt l (k+1)=max (longAt l k) (lenL l[k].N):=zh3 h
theorem zlB (l:List Num):longAt l l.length=longestN l:=by unfold longAt;rw[List.take_length]
def zdX (l:List Num)(k:Nat):Nat:=zbO (l.take k)
theorem zhi {l:List Num}{k:Nat}(h:k<l.length):zdX l (k+1)=zdX l k+l[k].N:=znH h
theorem zir (l:List Num):zdX l l.length=zbO l:=by unfold zdX;rw[List.take_length]
theorem zkg (l:List Num)(k:Nat):zdX l k<=zbO l:=zi7 l k
section
variable {P:Program} (w:World)
theorem zfn (base:Nat)(t ty e:TypeId)(i:TypeInfo)(size:Nat)(ht:P.underlying t=some (.slice e))(hi:P.info? e=some i)
  (v:Value) (n:Nat) (xs:List Value) (hown:w.ownsRow base e size v n xs) (c:Nat):(Builtin.append_ #[t,t] ty #[v,.slice none 0 c]).run P w= .ok v w:=by
 rcases hown.2 with⟨rfl,rfl⟩|⟨g,cap,cur,rfl,_,_,hnc,_⟩
 ·simp[Builtin.append_,run_underlying ht,sizeOf,typeInfo,hi,Builtin.lenOf,Builtin.firstCells]
 ·simp[Builtin.append_,run_underlying ht,sizeOf,typeInfo,hi,Builtin.lenOf,Builtin.firstCells,hnc,storeCells]
theorem zeA (base:Nat)(t ty e:TypeId)(i:TypeInfo)(z:Value)(bytes:Nat)(ht:P.underlying t=some (.slice e))(hi:P.info? e=some i)(hz:i.zero=some z)
  (hsize:i.size=1) (hby:i.bytes=bytes) (hzs:z.cells.size=1)
  (v:Value) (n:Nat) (xs:List Value) (hown:w.ownsRow base e 1 v n xs)
  (A:Option Addr) (m c:Nat) (news:List Value) (hl:news.length=m) (hr:∀j u,news[j]?=some u->∃ad:Addr,A=some ad/\w.cell? (ad.add j)=some u) (h1:∀u∈news,u.oneCell'=true)
  (h63:n+m<=maxLen) (hbytes:(n+m)*bytes<=140737488355328) (hbase:base<=w.heap.size):
  ∃v' w',(Builtin.append_ #[t,t] ty #[v,.slice A m c]).run P w= .ok v' w'/\w'.ownsRow base e 1 v' (n+m) (xs++news)/\w.grownBy w' v.ownBlock/\
   (v'.ownBlock=v.ownBlock\/v'.ownBlock=some w.heap.size):=by
 cases A with
 |none=>
  have hm:news=[]:=by
   cases news with
   |nil=>rfl
   |cons u news=>
    obtain⟨ad,h,_⟩:=hr 0 u rfl
    cases h
  subst hm
  simp only[List.length_nil]at hl
  subst hl
  exact⟨v,w,zfn w base t ty e i 1 ht hi v n xs hown c,by simpa using hown,World.grownBy.refl w _,.inl rfl⟩
 |some ad=>
  obtain⟨v',w',hrun,h2,h3,_,h5⟩:=run_append_own_at (P:=P) w base t ty e i z 1 bytes ht hi hz hsize hby hzs (by decide) v n xs hown ad m c news (by rw[hl,Nat.mul_one]) (fun j u hu=>by
   obtain⟨ad',e',h⟩:=hr j u hu
   cases e'
   exact h) h1 h63 hbytes hbase
  exact⟨v',w',hrun,h2,h3,h5⟩
theorem zaC {ops:Array Oper}{rest:List Oper}{o:Oper}{a:Act}{Q:Exit->Act->World->Prop}(hgd:o.guard=none)(s x:Operand)(t:TypeId)
  (ho:o.op= .call { callee:= .builtin .append,args:= #[s,x],argTypes:= #[t,t] })
  (base:Nat) (e:TypeId) (i:TypeInfo) (z:Value) (bytes:Nat) (ht:P.underlying t=some (.slice e)) (hi:P.info? e=some i) (hz:i.zero=some z)
  (hsize:i.size=1) (hby:i.bytes=bytes) (hzs:z.cells.size=1)
  (v:Value) (n:Nat) (xs:List Value) (hs:a.eval s=v) (hown:w.ownsRow base e 1 v n xs)
  (A:Option Addr) (m c:Nat) (news:List Value) (hx:a.eval x= .slice A m c) (hl:news.length=m) (hr:∀j u,news[j]?=some u->∃ad:Addr,A=some ad/\w.cell? (ad.add j)=some u) (h1:∀u∈news,u.oneCell'=true)
  (h63:n+m<=maxLen) (hbytes:(n+m)*bytes<=140737488355328) (hbase:base<=w.heap.size)
  (h:∀v' w',w'.ownsRow base e 1 v' (n+m) (xs++news)->w.grownBy w' v.ownBlock->(v'.ownBlock=v.ownBlock\/v'.ownBlock=some w.heap.size)->wpList P ops Q rest (a.put o.dst v') w'):wpList P ops Q (o::rest) a w:=by
 refine wpList_plain hgd fun K hK=>?_
 obtain⟨v',w',hrun,h2,h3,h4⟩:=zeA (P:=P) w base t o.type e i z bytes ht hi hz hsize hby hzs v n xs hown A m c news hl hr h1 h63 hbytes hbase
 unfold Oper.wp execOp
 simp only[ho,resolve,invoke,builtin,Sem.run_bind,Sem.run_pure,Result.andThen_ok,List.map_toArray,List.map_cons,List.map_nil,hs,hx,hrun]
 exact hK _ _ (h v' w' h2 h3 h4)
end
end
section
open Go Go.RowKit
variable {F:Fence}{n:Nat}{P:Program}
theorem zhj (w:World)(row:Option Nat):w.grownBy w.drew row:=⟨rfl,rfl,rfl,Nat.le_refl _,fun _ _ _=>rfl⟩
theorem zep {n:Nat}{P:Program}{c:Code}{Q:Exit->Act->World->Prop}{a:Act}{w:World}(h:c.wpIn Fence.wide n P (Exit.noGoto Q) a w):(Code.scope c).wpIn Fence.wide n P Q a w:=
 wpIn_wide.2 (wp_scope_straight (wpIn_wide.1 h))
theorem zaJ (w:World)(n:Nat)(row:Option Nat):w.grownBy (w.drewN n) row:=⟨rfl,rfl,rfl,Nat.le_refl _,fun _ _ _=>rfl⟩
def zi8 {σ:Type}(B:Nat)(I:σ->World->Prop)(Ix:Code->σ->World->Prop)(s:σ)(W:World):Exit->Act->World->Prop
 | .normal,_,W'=>KeepsFrom B W W'/\I s W'
 | .ret,_,W'=>KeepsFrom B W W'/\Ix .ret s W'
 | .exit id,_,W'=>KeepsFrom B W W'/\Ix (.exit id) s W'
 | .goto t,_,W'=>KeepsFrom B W W'/\Ix (.goto t) s W'
 | .panic _,_,_=>False
 | .outgrown,_,_=>False
def zfH {σ α:Type}(F:Fence)(n:Nat)(P:Program)(g:Nat)(lb:Array Value)(encs:α->Array Value)(ok:σ->α->Prop)(nx:σ->α->σ)(s0:σ)(S Sp:σ->Prop)(I:σ->World->Prop):Prop:=
 ∀(l:Nat) (J Jx:σ->World->Prop) (W:World),(∀s W,J s W->I s W)->(∀s W W',J s W->W.grownBy W' none->J s W')->(∀s W W',Jx s W->W.grownBy W' none->Jx s W')->
  (∀s x W1,J s W1->ok s x->YieldAt F (n - 1) P l (encs x) W1 fun e W'=>∃b:Bool,e= .returned (.bool b)/\(b=true->J (nx s x) W')/\(b=false->Jx (nx s x) W'))->
  J s0 W->CallsIn F n P g (#[.func (.yield l) #[] #[]]++lb) W fun e W'=>(∃v,e= .returned v)/\((∃s,S s/\J s W')\/(∃s,Sp s/\Jx s W'))
theorem za5 {σ α:Type}{g:Operand}{ps:Array Tmp}{assign body:Code}{Q:Exit->Act->World->Prop}{a:Act}{w:World}
  (hro:F.round=none) (h1:1<=n) {gf:Nat} {lb:Array Value} (hg:a.eval g= .func (.func gf) #[] lb) (hFg:F.fn gf) (eg:∀args w,(callFunc gf args).run P w= .ok (.enter gf args) w)
  {encs:α->Array Value} (hps:∀x,(encs x).size=ps.size) {ok:σ->α->Prop} {nx:σ->α->σ} {s0:σ} {S Sp:σ->Prop}
  (I:σ->World->Prop) (Ix:Code->σ->World->Prop) (hI:OwnFrom w.heap.size I) (hIx:∀c,OwnFrom w.heap.size (Ix c)) (h0:I s0 w)
  (hseq:zfH F (n - 1) P gf lb encs ok nx s0 S Sp I) (a₁:α->Act)
  (hassign:∀(l:Nat) (x:α) (W:World) (K:Act->World->Prop),K (a₁ x) W->
   assign.wpIn (F.inRound l) (n - 1 - 1) P (Exit.then K (fun _ _ _=>False)) { tmps:=(ps.zip (encs x)).foldl (fun t (p,v)=>t.setIfInBounds p v) a.tmps,defers:=[] } W)
  (hbody:∀(l:Nat) (s:σ) (x:α) (W:World),I s W->ok s x->body.wpIn (F.inRound l) (n - 1 - 1) P (zi8 w.heap.size I Ix (nx s x) W) (a₁ x) W)
  (hdone:∀(D:Nat) (s:σ) (W:World),w.heap.size<=D->S s->I s W->W.heap[D]?=some (.deferred (some []))->Q .normal { a with defers:= { target:= .collected D,args:= #[] }::a.defers } W)
  (hstop:∀(D:Nat) (c:Code) (s:σ) (W:World),w.heap.size<=D->Sp s->Ix c s W->W.heap[D]?=some (.deferred (some []))->c.wpIn F n P Q { a with defers:= { target:= .collected D,args:= #[] }::a.defers } W):
  (Code.rangeFunc g ps assign body).wpIn F n P Q a w:=by
 refine wpIn_rangeFunc ?_
 intro fn hfn
 rw[hro]
 obtain⟨rec,hrec⟩:∃rec:LoopState->Option Code->Loop,rec=fun st pe=> { state:=st,pending:=pe,fn,tmps:=a.tmps,params:=ps,assign,body,defers:=w.heap.size }:=⟨_,rfl⟩
 obtain⟨W1,hW1⟩:∃W1,(w.alloc (.deferred (some []))).alloc (.loop (rec .ready none))=W1:=⟨_,rfl⟩
 have hL1:W1.heap[w.heap.size+1]?=some (.loop (rec .ready none)):=by
  rw[<-hW1];have:=World.alloc_heap_new (w.alloc (.deferred (some []))) (.loop (rec .ready none));rwa [World.size_alloc]at this
 have hK1:W1.heap[w.heap.size]?=some (.deferred (some [])):=by
  rw[<-hW1];exact(Below.heap_alloc _ _ _ (by simp)).trans (World.alloc_heap_new w _)
 have hI1:I s0 W1:=by rw[<-hW1];exact hI.alloc _ (hI.alloc _ h0)
 have keep:∀ {A B:World} {k:Nat} {o:Obj},A.grownBy B none->A.heap[k]?=some o->B.heap[k]?=some o:=fun hg hk=>
  (hg.block _ (Array.getElem?_eq_some_iff.1 hk).1 (by simp)).trans hk
 refine⟨w.heap.size+1,[{ target:= .collected w.heap.size,args:= #[] }],W1,{ target:= .fn (.func gf) lb,args:= #[.func (.yield (w.heap.size+1)) #[] #[]] },W1,gf,
  #[.func (.yield (w.heap.size+1)) #[] #[]]++lb,W1,?_,?_,?_,?_,fun _=>h1,?_⟩
 ·rw[<-hW1,hrec];exact run_enterLoop_outer _ _ _ _ _
 ·simp only[resolve,hg]
  simp[go_sem]
 ·intro f' hf';simp[Target.leads]at hf';subst hf';exact hFg
 ·simp[invoke,go_sem,eg]
 ·refine(hseq (w.heap.size+1)
   (fun s W=>I s W/\W.heap[w.heap.size+1]?=some (.loop (rec .ready none))/\W.heap[w.heap.size]?=some (.deferred (some [])))
   (fun s W=>∃c,Ix c s W/\W.heap[w.heap.size+1]?=some (.loop (rec .done (some c)))/\W.heap[w.heap.size]?=some (.deferred (some [])))
   W1 (fun _ _ h=>h.1)
   (fun s A B h hg'=>⟨hI s A B none h.1 hg' (fun r e=>by cases e),keep hg' h.2.1,keep hg' h.2.2⟩)
   (fun s A B h hg'=>by obtain⟨c,hc,hl,hk⟩:=h;exact⟨c,hIx c s A B none hc hg' (fun r e=>by cases e),keep hg' hl,keep hg' hk⟩)
   ?_ ⟨hI1,hL1,hK1⟩).mono ?_
  ·rintro s x W ⟨hi,hl,hk⟩ hok
   have hlt:w.heap.size+1<W.heap.size:=(Array.getElem?_eq_some_iff.1 hl).1
   have hy:=run_yield (P:=P) (args:=encs x) hl (by rw[hrec];exact hps x)
   rw[hrec]at hy
   refine⟨fn,_,assign,body,hy,roundIn_of_wpIn hfn (hassign _ x W _ ⟨_,run_beginRound hl (by rw[hrec]),?_⟩)⟩
   have hl2:(W.putObj (w.heap.size+1) (.loop { rec .ready none with state:= .busy })).heap[w.heap.size+1]?=some (.loop { rec .ready none with state:= .busy }):=World.putObj_heap_same hlt
   have hk2:(W.putObj (w.heap.size+1) (.loop { rec .ready none with state:= .busy })).heap[w.heap.size]?=some (.deferred (some [])):=(World.putObj_heap_other (by omega)).trans hk
   refine wpIn_mono (hbody _ s x _ (hI.putObj _ hi (by omega) hl rfl) hok) ?_
   have fin:∀(jump:Option Code) (W3:World),KeepsFrom w.heap.size (W.putObj (w.heap.size+1) (.loop { rec .ready none with state:= .busy })) W3->
     (Instr.endRound (w.heap.size+1) jump).run P W3= .ok (.bool jump.isNone) (W3.putObj (w.heap.size+1) (.loop (rec (if jump.isNone then .ready else .done) jump)))/\
     W3.heap[w.heap.size+1]?=some (.loop { rec .ready none with state:= .busy })/\
     (W3.putObj (w.heap.size+1) (.loop (rec (if jump.isNone then .ready else .done) jump))).heap[w.heap.size+1]?=some (.loop (rec (if jump.isNone then .ready else .done) jump))/\
     (W3.putObj (w.heap.size+1) (.loop (rec (if jump.isNone then .ready else .done) jump))).heap[w.heap.size]?=some (.deferred (some [])):=fun jump W3 hk3=>by
    have hl3:=hk3.same _ _ (by omega) hl2 rfl
    have:=run_endRound (P:=P) jump hl3
    rw[hrec]at this ⊢
    exact⟨this,by rw[hrec]at hl3;exact hl3,World.putObj_heap_same (Array.getElem?_eq_some_iff.1 hl3).1,(World.putObj_heap_other (by omega)).trans (hk3.same _ _ zv0 hk2 rfl)⟩
   have stop:∀(c:Code) (W3:World),KeepsFrom w.heap.size (W.putObj (w.heap.size+1) (.loop { rec .ready none with state:= .busy })) W3->Ix c (nx s x) W3->
     ∃v W4,(Instr.endRound (w.heap.size+1) (some c)).run P W3= .ok v W4/\∃b:Bool,Ending.returned v= .returned (.bool b)/\(b=true->I (nx s x) W4/\W4.heap[w.heap.size+1]?=some (.loop (rec .ready none))/\W4.heap[w.heap.size]?=some (.deferred (some [])))/\
      (b=false->∃c,Ix c (nx s x) W4/\W4.heap[w.heap.size+1]?=some (.loop (rec .done (some c)))/\W4.heap[w.heap.size]?=some (.deferred (some []))):=fun c W3 hk3 hi3=>by
    obtain⟨hr,hl3,hl4,hk4⟩:=fin (some c) W3 hk3
    exact⟨_,_,hr,false,rfl,(fun h=>by cases h),fun _=>⟨c,(hIx c).putObj _ hi3 (by omega) hl3 rfl,hl4,hk4⟩⟩
   rintro e a3 W3 hp
   cases e with
   |normal=>
    obtain⟨hr,hl3,hl4,hk4⟩:=fin none W3 hp.1
    exact⟨_,_,hr,true,rfl,(fun _=>⟨hI.putObj _ hp.2 (by omega) hl3 rfl,hl4,hk4⟩),(fun h=>by cases h)⟩
   |ret=>exact stop _ W3 hp.1 hp.2
   |exit id=>exact stop _ W3 hp.1 hp.2
   |goto t=>exact stop _ W3 hp.1 hp.2
   |panic ch=>exact hp.elim
   |outgrown=>exact hp.elim
  ·rintro e W2 ⟨⟨v,rfl⟩,(⟨s,hS,hi,hl,hk⟩|⟨s,hSp,c,hi,hl,hk⟩)⟩
   ·exact⟨none,_,by have:=run_endLoop (P:=P) hl (by rw[hrec];simp);rw[hrec]at this;exact this,hdone _ s _ zv0 hS (hI.putObj _ hi (by omega) hl rfl) ((World.putObj_heap_other (by omega)).trans hk)⟩
   ·exact⟨some c,_,by have:=run_endLoop (P:=P) hl (by rw[hrec];simp);rw[hrec]at this;exact this,hstop _ c s _ zv0 hSp ((hIx c).putObj _ hi (by omega) hl rfl) ((World.putObj_heap_other (by omega)).trans hk)⟩
theorem Rd.kept {W W':World}{hi m N:Nat}{A:Option Addr}{row:Option Nat}(h:Rd W hi A m N)(hg:W.grownBy W' row)(hrow:∀r,row=some r->∃o:Obj,W.heap[r]?=some o/\o.isCells=false):Rd W' hi A m N:=
 ⟨h.1,fun hm=>by
  obtain⟨ad,e,hb,hc⟩:=h.2 hm
  exact⟨ad,e,hb,fun j hj=>cell_kept (hc j hj) hg hrow⟩⟩
theorem Fr.kept {W W':World}{lo hi m N:Nat}{A:Option Addr}{row:Option Nat}(h:Fr W lo hi A m N)(hg:W.grownBy W' row)(hrow:∀r,row=some r->∃o:Obj,W.heap[r]?=some o/\o.isCells=false):Fr W' lo hi A m N:=
 ⟨h.1,fun hm=>by
  obtain⟨g,e,hl,hb,hc⟩:=h.2 hm
  exact⟨g,e,hl,hb,fun j hj=>⟨cell_kept (hc j hj).1 hg hrow,(frozen_kept (hc j hj).1 hg hrow).trans (hc j hj).2⟩⟩⟩
theorem za7 {W W':World}{B:Nat}{t:TypeId}{v:Value}{row:Option Nat}(h:Boxed W B t v)(hg:W.grownBy W' row)(hrow:∀r,row=some r->∃o:Obj,W.heap[r]?=some o/\o.isCells=false):Boxed W' B t v:=
 h.kept hg (fun e=>by
  obtain⟨o,ho,hc⟩:=hrow B e.symm
  rw[show W.heap[B]?=_ from h]at ho
  cases ho
  cases hc)
end
section
open Go Go.RowKit
variable {F:Fence}{n:Nat}{P:Program}{ops:Array Oper}{Q:Exit -> Act -> World -> Prop}{md:Region.Mode}
def zbS (o:Oper):Bool:=match o.op with
 | .defer _=>false
 |_=>true
theorem zcr {o:Oper}(h:zbS o=true):∀c,o.op≠ .defer c:=fun c e=>by unfold zbS at h;rw[e]at h;cases h
theorem zi9 {l i:Nat}{K:Act->World->Prop}{a:Act}{w:World}(hnd:∀(j:Nat) o,ops[j]?=some o->zbS o=true)
  (h:wpOpIn F n P ops Q i K a w):wpOpIn (F.inRound l) n P ops Q i K a w:=by
 unfold wpOpIn at*
 split
 ·next ho=>simp only[ho]at h;exact h
 ·next o ho=>
  simp only[ho]at h
  split
  ·next hw=>
   simp only[hw,if_true]at h
   have e1:=Oper.semAt_plain F a.eval o (zcr (hnd i o ho))
   have e2:=Oper.semAt_plain (F.inRound l) a.eval o (zcr (hnd i o ho))
   unfold Oper.wpIn at*
   rw[e1]at h
   rw[e2]
   exact h
  ·next hw=>simp only[hw]at h;exact h
theorem zh4 {l:Nat}(hnd:∀(j:Nat) o,ops[j]?=some o->zbS o=true):
  ∀(fuel:Nat) (listed:Array Bool) (a:Act) (w:World),wpAnyIn F n P md ops Q fuel listed a w->wpAnyIn (F.inRound l) n P md ops Q fuel listed a w:=by
 intro fuel
 induction fuel with
 |zero=>intro listed a w h;exact h
 |succ fuel ih=>
  intro listed a w h
  exact⟨h.1,fun i hi=>wpOpIn_mono (fun a w=>ih _ a w) (zi9 hnd (h.2 i hi))⟩
theorem zkh (h:ops.all zbS=true):∀(j:Nat) o,ops[j]?=some o->zbS o=true:=fun j o ho=>by
 obtain⟨hj,rfl⟩:=Array.getElem?_eq_some_iff.1 ho
 exact Array.all_eq_true.1 h j hj
theorem zcI {id l:Nat}{a:Act}{w:World}(hm:P.follows .mixedOrders=true)(hnd:ops.all zbS=true)
  (h:wpAnyIn F n P .any ops Q ops.size (Array.replicate ops.size false) a w.drew):(Code.region id ops true).wpIn (F.inRound l) n P Q a w:=
 wpIn_region_any hm (zh4 (zkh hnd) _ _ _ _ h)
end
section
open Go Go.RowKit
variable {F:Fence}{n:Nat}{P:Program}
def zja {σ α:Type}(F:Fence)(n:Nat)(P:Program)(g:Nat)(lb:Array Value)(encs:α->Array Value)(ok:σ->α->Prop)(nx:σ->α->σ)(s0:σ)(S Sp:σ->Prop)(I:σ->World->Prop)(mv:σ->σ->World->World->Prop):Prop:=
 ∀(l:Nat) (J Jx:σ->World->Prop) (W:World),(∀s W,J s W->I s W)->(∀s W W',J s W->W.grownBy W' none->J s W')->(∀s W W',Jx s W->W.grownBy W' none->Jx s W')->
  (∀s s' A B,J s A->mv s s' A B->J s' B)->
  (∀s x W1,J s W1->ok s x->YieldAt F (n - 1) P l (encs x) W1 fun e W'=>∃b:Bool,e= .returned (.bool b)/\(b=true->J (nx s x) W')/\(b=false->Jx (nx s x) W'))->
  J s0 W->CallsIn F n P g (#[.func (.yield l) #[] #[]]++lb) W fun e W'=>(∃v,e= .returned v)/\((∃s,S s/\J s W')\/(∃s,Sp s/\Jx s W'))
theorem zeB {σ α:Type}{g:Operand}{ps:Array Tmp}{assign body:Code}{Q:Exit->Act->World->Prop}{a:Act}{w:World}
  (hro:F.round=none) (h1:1<=n) {gf:Nat} {lb:Array Value} (hg:a.eval g= .func (.func gf) #[] lb) (hFg:F.fn gf) (eg:∀args w,(callFunc gf args).run P w= .ok (.enter gf args) w)
  {encs:α->Array Value} (hps:∀x,(encs x).size=ps.size) {ok:σ->α->Prop} {nx:σ->α->σ} {s0:σ} {S Sp:σ->Prop} {mv:σ->σ->World->World->Prop}
  (I:σ->World->Prop) (Ix:Code->σ->World->Prop) (hI:OwnFrom w.heap.size I) (hIx:∀c,OwnFrom w.heap.size (Ix c)) (h0:I s0 w)
  (hmv:∀s s' A B,I s A->mv s s' A B->I s' B) (hmr:∀s s' A B,mv s s' A B->∃r,r<w.heap.size/\A.grownBy B (some r))
  (hseq:zja F (n - 1) P gf lb encs ok nx s0 S Sp I mv) (a₁:α->Act)
  (hassign:∀(l:Nat) (x:α) (W:World) (K:Act->World->Prop),K (a₁ x) W->
   assign.wpIn (F.inRound l) (n - 1 - 1) P (Exit.then K (fun _ _ _=>False)) { tmps:=(ps.zip (encs x)).foldl (fun t (p,v)=>t.setIfInBounds p v) a.tmps,defers:=[] } W)
  (hbody:∀(l:Nat) (s:σ) (x:α) (W:World),I s W->ok s x->body.wpIn (F.inRound l) (n - 1 - 1) P (zi8 w.heap.size I Ix (nx s x) W) (a₁ x) W)
  (hdone:∀(D:Nat) (s:σ) (W:World),w.heap.size<=D->S s->I s W->W.heap[D]?=some (.deferred (some []))->Q .normal { a with defers:= { target:= .collected D,args:= #[] }::a.defers } W)
  (hstop:∀(D:Nat) (c:Code) (s:σ) (W:World),w.heap.size<=D->Sp s->Ix c s W->W.heap[D]?=some (.deferred (some []))->c.wpIn F n P Q { a with defers:= { target:= .collected D,args:= #[] }::a.defers } W):
  (Code.rangeFunc g ps assign body).wpIn F n P Q a w:=by
 refine wpIn_rangeFunc ?_
 intro fn hfn
 rw[hro]
 obtain⟨rec,hrec⟩:∃rec:LoopState->Option Code->Loop,rec=fun st pe=> { state:=st,pending:=pe,fn,tmps:=a.tmps,params:=ps,assign,body,defers:=w.heap.size }:=⟨_,rfl⟩
 obtain⟨W1,hW1⟩:∃W1,(w.alloc (.deferred (some []))).alloc (.loop (rec .ready none))=W1:=⟨_,rfl⟩
 have hL1:W1.heap[w.heap.size+1]?=some (.loop (rec .ready none)):=by
  rw[<-hW1];have:=World.alloc_heap_new (w.alloc (.deferred (some []))) (.loop (rec .ready none));rwa [World.size_alloc]at this
 have hK1:W1.heap[w.heap.size]?=some (.deferred (some [])):=by
  rw[<-hW1];exact(Below.heap_alloc _ _ _ (by simp)).trans (World.alloc_heap_new w _)
 have hI1:I s0 W1:=by rw[<-hW1];exact hI.alloc _ (hI.alloc _ h0)
 have keep:∀ {A B:World} {k:Nat} {o:Obj},A.grownBy B none->A.heap[k]?=some o->B.heap[k]?=some o:=fun hg hk=>
  (hg.block _ (Array.getElem?_eq_some_iff.1 hk).1 (by simp)).trans hk
 refine⟨w.heap.size+1,[{ target:= .collected w.heap.size,args:= #[] }],W1,{ target:= .fn (.func gf) lb,args:= #[.func (.yield (w.heap.size+1)) #[] #[]] },W1,gf,
  #[.func (.yield (w.heap.size+1)) #[] #[]]++lb,W1,?_,?_,?_,?_,fun _=>h1,?_⟩
 ·rw[<-hW1,hrec];exact run_enterLoop_outer _ _ _ _ _
 ·simp only[resolve,hg]
  simp[go_sem]
 ·intro f' hf';simp[Target.leads]at hf';subst hf';exact hFg
 ·simp[invoke,go_sem,eg]
 ·refine(hseq (w.heap.size+1)
   (fun s W=>I s W/\W.heap[w.heap.size+1]?=some (.loop (rec .ready none))/\W.heap[w.heap.size]?=some (.deferred (some [])))
   (fun s W=>∃c,Ix c s W/\W.heap[w.heap.size+1]?=some (.loop (rec .done (some c)))/\W.heap[w.heap.size]?=some (.deferred (some [])))
   W1 (fun _ _ h=>h.1)
   (fun s A B h hg'=>⟨hI s A B none h.1 hg' (fun r e=>by cases e),keep hg' h.2.1,keep hg' h.2.2⟩)
   (fun s A B h hg'=>by obtain⟨c,hc,hl,hk⟩:=h;exact⟨c,hIx c s A B none hc hg' (fun r e=>by cases e),keep hg' hl,keep hg' hk⟩)
   (fun s s' A B h hm=>by
    obtain⟨r,hr,hg'⟩:=hmr _ _ _ _ hm
    exact⟨hmv _ _ _ _ h.1 hm,(hg'.block _ (Array.getElem?_eq_some_iff.1 h.2.1).1 (by intro e;injection e;omega)).trans h.2.1,(hg'.block _ (Array.getElem?_eq_some_iff.1 h.2.2).1 (by intro e;injection e;omega)).trans h.2.2⟩)
   ?_ ⟨hI1,hL1,hK1⟩).mono ?_
  ·rintro s x W ⟨hi,hl,hk⟩ hok
   have hlt:w.heap.size+1<W.heap.size:=(Array.getElem?_eq_some_iff.1 hl).1
   have hy:=run_yield (P:=P) (args:=encs x) hl (by rw[hrec];exact hps x)
   rw[hrec]at hy
   refine⟨fn,_,assign,body,hy,roundIn_of_wpIn hfn (hassign _ x W _ ⟨_,run_beginRound hl (by rw[hrec]),?_⟩)⟩
   have hl2:(W.putObj (w.heap.size+1) (.loop { rec .ready none with state:= .busy })).heap[w.heap.size+1]?=some (.loop { rec .ready none with state:= .busy }):=World.putObj_heap_same hlt
   have hk2:(W.putObj (w.heap.size+1) (.loop { rec .ready none with state:= .busy })).heap[w.heap.size]?=some (.deferred (some [])):=(World.putObj_heap_other (by omega)).trans hk
   refine wpIn_mono (hbody _ s x _ (hI.putObj _ hi (by omega) hl rfl) hok) ?_
   have fin:∀(jump:Option Code) (W3:World),KeepsFrom w.heap.size (W.putObj (w.heap.size+1) (.loop { rec .ready none with state:= .busy })) W3->
     (Instr.endRound (w.heap.size+1) jump).run P W3= .ok (.bool jump.isNone) (W3.putObj (w.heap.size+1) (.loop (rec (if jump.isNone then .ready else .done) jump)))/\
     W3.heap[w.heap.size+1]?=some (.loop { rec .ready none with state:= .busy })/\
     (W3.putObj (w.heap.size+1) (.loop (rec (if jump.isNone then .ready else .done) jump))).heap[w.heap.size+1]?=some (.loop (rec (if jump.isNone then .ready else .done) jump))/\
     (W3.putObj (w.heap.size+1) (.loop (rec (if jump.isNone then .ready else .done) jump))).heap[w.heap.size]?=some (.deferred (some [])):=fun jump W3 hk3=>by
    have hl3:=hk3.same _ _ (by omega) hl2 rfl
    have:=run_endRound (P:=P) jump hl3
    rw[hrec]at this ⊢
    exact⟨this,by rw[hrec]at hl3;exact hl3,World.putObj_heap_same (Array.getElem?_eq_some_iff.1 hl3).1,(World.putObj_heap_other (by omega)).trans (hk3.same _ _ zv0 hk2 rfl)⟩
   have stop:∀(c:Code) (W3:World),KeepsFrom w.heap.size (W.putObj (w.heap.size+1) (.loop { rec .ready none with state:= .busy })) W3->Ix c (nx s x) W3->
     ∃v W4,(Instr.endRound (w.heap.size+1) (some c)).run P W3= .ok v W4/\∃b:Bool,Ending.returned v= .returned (.bool b)/\(b=true->I (nx s x) W4/\W4.heap[w.heap.size+1]?=some (.loop (rec .ready none))/\W4.heap[w.heap.size]?=some (.deferred (some [])))/\
      (b=false->∃c,Ix c (nx s x) W4/\W4.heap[w.heap.size+1]?=some (.loop (rec .done (some c)))/\W4.heap[w.heap.size]?=some (.deferred (some []))):=fun c W3 hk3 hi3=>by
    obtain⟨hr,hl3,hl4,hk4⟩:=fin (some c) W3 hk3
    exact⟨_,_,hr,false,rfl,(fun h=>by cases h),fun _=>⟨c,(hIx c).putObj _ hi3 (by omega) hl3 rfl,hl4,hk4⟩⟩
   rintro e a3 W3 hp
   cases e with
   |normal=>
    obtain⟨hr,hl3,hl4,hk4⟩:=fin none W3 hp.1
    exact⟨_,_,hr,true,rfl,(fun _=>⟨hI.putObj _ hp.2 (by omega) hl3 rfl,hl4,hk4⟩),(fun h=>by cases h)⟩
   |ret=>exact stop _ W3 hp.1 hp.2
   |exit id=>exact stop _ W3 hp.1 hp.2
   |goto t=>exact stop _ W3 hp.1 hp.2
   |panic ch=>exact hp.elim
   |outgrown=>exact hp.elim
  ·rintro e W2 ⟨⟨v,rfl⟩,(⟨s,hS,hi,hl,hk⟩|⟨s,hSp,c,hi,hl,hk⟩)⟩
   ·exact⟨none,_,by have:=run_endLoop (P:=P) hl (by rw[hrec];simp);rw[hrec]at this;exact this,hdone _ s _ zv0 hS (hI.putObj _ hi (by omega) hl rfl) ((World.putObj_heap_other (by omega)).trans hk)⟩
   ·exact⟨some c,_,by have:=run_endLoop (P:=P) hl (by rw[hrec];simp);rw[hrec]at this;exact this,hstop _ c s _ zv0 hSp ((hIx c).putObj _ hi (by omega) hl rfl) ((World.putObj_heap_other (by omega)).trans hk)⟩
end
end Go.Proofs.YtipckjmgdghkiaaGreatDoor
