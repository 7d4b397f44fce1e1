/- Contract of the reference's Norm of layer 5. -/
import Derived.Test.YtipckjmgdghkiaaGreatDoorGSintA
import Derived.Test.YtipckjmgdghkiaaGreatDoorGRefH
set_option maxHeartbeats 1000000
set_option maxRecDepth 100000
namespace Go.Proofs.YtipckjmgdghkiaaGreatDoor
open Go Go.RowKit
theorem zcR {w W:World}{e:List Num}{x:Num}(b:Bool)(h:Env w e W)(hx:x∈e):
  Calls Tryz.prog 108 #[.agg #[.bool b,.slice x.A x.n x.c]] W (Zs w e (zOf b x.N)):=by
 obtain⟨h1,h2,h3,h4⟩:=(((h.alloc (.cells #[.bool b,.slice x.A x.n x.c] 25)).alloc (.cells #[.bool false,.slice none 0 0] 25))).2 x hx
 have hlx:=zai.2 h1.1
 have E:=zvY (zbs _ _ _ _ _ h1 h2 h3 h4)
 have hE:=zvY h
 have B1:=zvY ((Box2.new W 25 (.bool b) (.slice x.A x.n x.c)).alloc (.cells #[.bool false,.slice none 0 0] 25))
 have B2:=zvY (Box2.new (W.alloc (.cells #[.bool b,.slice x.A x.n x.c] 25)) 25 (.bool false) (.slice none 0 0))
 rw[World.size_alloc]at B2
 have hsz:((W.alloc (.cells #[.bool b,.slice x.A x.n x.c] 25)).alloc (.cells #[.bool false,.slice none 0 0] 25)).heap.size=W.heap.size+2:=by simp
 clear h h1 h2 h3
 have hbl:∀W1,Below (W.heap.size+2) ((W.alloc (.cells #[.bool b,.slice x.A x.n x.c] 25)).alloc (.cells #[.bool false,.slice none 0 0] 25)) W1->Below W.heap.size W W1:=fun W1 hb=>(((Below.refl _ W).alloc zv0 _).alloc (by simp) _).trans (hb.mono (by omega))
 have fin:∀(b':Bool) (A:Option Addr) (c:Nat) (W1:World),zOf b x.N=zOf b' x.N->b'=decide (zOf b x.N<0)->lenL x.N<=c->c<=maxLen->Hid (Fr W1 (W.heap.size+2) W1.heap.size A (lenL x.N) x.N)->Below (W.heap.size+2) ((W.alloc (.cells #[.bool b,.slice x.A x.n x.c] 25)).alloc (.cells #[.bool false,.slice none 0 0] 25)) W1->
   Zs w e (zOf b x.N) (.returned (.agg #[.bool b',.slice A (lenL x.N) c])) ((W1.setCell ⟨W.heap.size+1,0,none⟩ (.bool b')).setCell ⟨W.heap.size+1,1,none⟩ (.slice A (lenL x.N) c)):=fun b' A c W1 _ hb g1 g2 g3 g4=>
  ⟨⟨A,lenL x.N,c,x.N⟩,by rw[hb],by rw[zbu],by rw[zbu],hE.out.put2 (r:=⟨A,lenL x.N,c,x.N⟩) (hbl W1 g4) g3.out ⟨g1,g2,by show lenL x.N<=_;omega⟩ (by omega) (by omega) _ _⟩
 have FN:=zvY fin
 clear fin hbl
 cases b
 ·go_enter Tryz.func108,Tryz.ntmps108
  go_wp2_with fail
  refine E.out.mono ?_
  rintro e1 W1 ⟨A,c,rfl,g1,g2,g3,g4⟩
  rw[hsz]at g3 g4
  obtain⟨c1,c2,-,-⟩:=(B1.out.below g4 (by omega)).cells
  obtain⟨c3,c4,c5,c6⟩:=(B2.out.below g4 (by omega)).cells
  have G3:=zvY g3
  clear g3
  go_wp2
  refine bodyPost_ret (zbp ((B2.out.below g4 (by omega)).set (.bool false) (.slice A (lenL x.N) c)) rfl rfl) rfl ?_
  exact FN.out false A c W1 rfl (by rw[zbQ];simp) g1 g2 G3 g4
 ·go_enter Tryz.func108,Tryz.ntmps108
  go_wp2_with fail
  refine E.out.mono ?_
  rintro e1 W1 ⟨A,c,rfl,g1,g2,g3,g4⟩
  rw[hsz]at g3 g4
  obtain⟨c1,c2,-,-⟩:=(B1.out.below g4 (by omega)).cells
  obtain⟨c3,c4,c5,c6⟩:=(B2.out.below g4 (by omega)).cells
  have G3:=zvY g3
  clear g3
  have hp:decide (0<lenL x.N)=decide (x.N≠0):=by
   rw[decide_eq_decide]
   have:=@zbF x.N
   omega
  have HP:=zvY hp
  clear hp
  go_wp2
  rw[HP.out]
  refine bodyPost_ret (zbp ((B2.out.below g4 (by omega)).set (.bool (decide (x.N≠0))) (.slice A (lenL x.N) c)) rfl rfl) rfl ?_
  refine FN.out (decide (x.N≠0)) A c W1 ?_ ?_ g1 g2 G3 g4
  ·by_cases h0:x.N=0
   ·rw[h0];rfl
   ·rw[decide_eq_true h0]
  ·rw[zce,decide_eq_decide];omega
theorem zsz {N:Nat}(h:N<18446744073709551616):lenL N<=2:=zbK.2 h
theorem zq4 {w W:World}{e:List Num}{n:Int}(h:Env w e W)(hn: -9223372036854775808<=n/\n<=9223372036854775807):
  Calls Tryz.prog 73 #[.int .i64 n] W (Zs w e n):=by
 obtain⟨n1,n2⟩:=hn
 obtain⟨N,hN⟩:∃N,n.natAbs=N:=⟨_,rfl⟩
 have hNb:N<18446744073709551616:=by omega
 have E:=zvY (zjN (W.alloc (.cells #[.bool false,.slice none 0 0] 25)) N hNb)
 have B1:=zvY (Box2.new W 25 (.bool false) (.slice none 0 0))
 have hsz:(W.alloc (.cells #[.bool false,.slice none 0 0] 25)).heap.size=W.heap.size+1:=by simp
 have hbl:∀W1,Below (W.heap.size+1) (W.alloc (.cells #[.bool false,.slice none 0 0] 25)) W1->Below W.heap.size W W1:=fun W1 hb=>((Below.refl _ W).alloc zv0 _).trans (hb.mono (by omega))
 have hl:=zsz hNb
 have FN:=zvY (fun(A:Option Addr) (c:Nat) (W1:World) (b':Bool) (hb:b'=decide (n<0)) (g1:lenL N<=c) (g2:c<=maxLen) (g3:Hid (Fr W1 (W.heap.size+1) W1.heap.size A (lenL N) N)) (g4:Below (W.heap.size+1) (W.alloc (.cells #[.bool false,.slice none 0 0] 25)) W1)=>
  (show Zs w e n (.returned (.agg #[.bool b',.slice A (lenL N) c])) ((W1.setCell ⟨W.heap.size,0,none⟩ (.bool b')).setCell ⟨W.heap.size,1,none⟩ (.slice A (lenL N) c))from
   ⟨⟨A,lenL N,c,N⟩,by rw[hb],hN.symm,by rw[hN],h.put2 (r:=⟨A,lenL N,c,N⟩) (hbl W1 g4) g3.out ⟨g1,g2,by show lenL N<=_;omega⟩ (by omega) (by omega) _ _⟩))
 clear h hbl
 by_cases h0:n<0
 ·have e1: -(n+1)+1=(N:Int):=by omega
  have hd:decide (n<0)=true:=by simp[h0]
  go_enter Tryz.func73,Tryz.ntmps73
  go_wp2_with fail
  refine E.out.mono ?_
  rintro e1 W1 ⟨A,c,rfl,g1,g2,g3,g4⟩
  rw[hsz]at g3 g4
  obtain⟨c3,c4,c5,c6⟩:=(B1.out.below g4 (by omega)).cells
  have G3:=zvY g3
  have HD:=zvY hd.symm
  clear g3 hd
  go_wp2
  refine bodyPost_ret (zbp ((B1.out.below g4 (by omega)).set (.bool true) (.slice A (lenL N) c)) rfl rfl) rfl ?_
  exact FN.out A c W1 true HD.out g1 g2 G3 g4
 ·have e1:n=(N:Int):=by omega
  have HD:=zvY (show false=decide (n<0) by simp;omega)
  subst e1
  go_enter Tryz.func73,Tryz.ntmps73
  go_wp2_with fail
  refine E.out.mono ?_
  rintro e1 W1 ⟨A,c,rfl,g1,g2,g3,g4⟩
  rw[hsz]at g3 g4
  obtain⟨c3,c4,c5,c6⟩:=(B1.out.below g4 (by omega)).cells
  have G3:=zvY g3
  clear g3
  go_wp2
  refine bodyPost_ret (zbp ((B1.out.below g4 (by omega)).set (.bool false) (.slice A (lenL N) c)) rfl rfl) rfl ?_
  exact FN.out A c W1 false HD.out g1 g2 G3 g4
end Go.Proofs.YtipckjmgdghkiaaGreatDoor
