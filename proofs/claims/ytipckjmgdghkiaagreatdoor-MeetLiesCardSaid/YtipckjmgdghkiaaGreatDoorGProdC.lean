/- A part. -/
import Derived.Laws.EntriesVeiled
import Derived.Test.YtipckjmgdghkiaaGreatDoorGProdD
set_option maxHeartbeats 4000000
set_option maxRecDepth 100000
namespace Go.Proofs.YtipckjmgdghkiaaGreatDoor
open Go Go.RowKit
theorem zm4 {a b:Nat}(h: ¬2*b<=a):a<2*b:=by omega
theorem zgO (bx m:Nat)(HP:zfu bx m)(w:World)(A A':Option Addr)(n n' N M:Nat)(hbx:Boxed w bx 108 (.func (.func 148) #[] #[.pointer (some ⟨bx,0,none⟩)]))
   (h:Rd w w.heap.size A n N) (h':Rd w w.heap.size A' n' M) (hn:n<=1000000000000) (hn':n'<=1000000000000) (hle:n'<=n) (hm:n+n'<=m):
   (n'<80->Calls Tryz.prog 150 #[.slice A n n,.slice A' n' n'] w (Gives w (N*M)))/\
   (80<=n'->2*n'<=n->Calls Tryz.prog 151 #[.slice A n n,.slice A' n' n',.func (.func 148) #[] #[.pointer (some ⟨bx,0,none⟩)]] w (Gives w (N*M)))/\
   (80<=n'->n<2*n'->Calls Tryz.prog 152 #[.slice A n n,.slice A' n' n',.func (.func 148) #[] #[.pointer (some ⟨bx,0,none⟩)]] w (Gives w (N*M))):=
 ⟨fun _=>zl4 A A' n n' n n' N M w hn hn' h h',
  fun h1 h2=>zjw bx m HP A A' n n' n n' N M w hbx hn hn' (by omega) (by omega) h h' zv0 (by omega) zv0 (by omega),
  fun h1 h2=>zjx bx m HP A A' n n' n n' N M w hbx hn (by omega) hle h2 (by omega) h h' zv0 (by omega) zv0 (by omega)⟩
theorem zol (bx m:Nat)(HP:zfu bx m):zfu bx (m+1):=by
 intro w A A' n n' c c' N M hbx h h' hnc hcb hnc' hcb' hn hn' hm
 have E1:=zvY (zcm w _ A n c N h hnc hcb)
 have E2:=zvY (zcm w _ A' n' c' M h' hnc' hcb')
 have l1:=zai.2 h.1
 have l2:=zai.2 h'.1
 have hcb0:=hbx.cell
 have S1:=zvY (fun hle=>zgO bx m HP w (zfm N A) (zfm M A') (lenL N) (lenL M) N M hbx h.cut h'.cut (by omega) (by omega) hle (by omega))
 have S2:=zvY (fun hle=>zgO bx m HP w (zfm M A') (zfm N A) (lenL M) (lenL N) M N hbx h'.cut h.cut (by omega) (by omega) hle (by omega))
 rw[Nat.mul_comm M N]at S2
 obtain⟨a,ha⟩:∃a,lenL N=a:=⟨_,rfl⟩
 obtain⟨b,hb⟩:∃b,lenL M=b:=⟨_,rfl⟩
 obtain⟨B,hB⟩:∃B,zfm N A=B:=⟨_,rfl⟩
 obtain⟨B',hB'⟩:∃B',zfm M A'=B':=⟨_,rfl⟩
 rw[ha,hb,hB,hB']at S1 S2
 rw[ha,hB]at E1
 rw[hb,hB']at E2
 have hab:a<=1000000000000:=by omega
 have hbb:b<=1000000000000:=by omega
 clear ha hb hB hB' h h' hbx l1 l2 hm
 by_cases hlt:a<b
 ·obtain⟨T1,T2,T3⟩:=S2.out (by omega)
  by_cases h80:a<80
  ·have T:=zvY (T1 h80)
   clear T1 T2 T3 S1 S2
   go_enter Tryz.func148,Tryz.ntmps148
   go_wp2_with (first
    |(go_at_call 149;(with_reducible refine E1.out.mono ?_);rintro e w' ⟨rfl,rfl⟩)
    |(go_at_call 149;(with_reducible refine E2.out.mono ?_);rintro e w' ⟨rfl,rfl⟩))
   refine T.out.mono ?_
   rintro e w' ⟨A2,c2,rfl,g1,g2,g3,g4⟩
   go_wp2
   go_ret
   exact⟨A2,c2,rfl,g1,g2,g3,g4⟩
  ·by_cases h2:2*a<=b
   ·have T:=zvY (T2 (by omega) h2)
    clear T1 T2 T3 S1 S2
    go_enter Tryz.func148,Tryz.ntmps148
    go_wp2_with (first
     |(go_at_call 149;(with_reducible refine E1.out.mono ?_);rintro e w' ⟨rfl,rfl⟩)
     |(go_at_call 149;(with_reducible refine E2.out.mono ?_);rintro e w' ⟨rfl,rfl⟩))
    refine T.out.mono ?_
    rintro e w' ⟨A2,c2,rfl,g1,g2,g3,g4⟩
    go_wp2
    go_ret
    exact⟨A2,c2,rfl,g1,g2,g3,g4⟩
   ·have T:=zvY (T3 (by omega) (zm4 h2))
    clear T1 T2 T3 S1 S2
    go_enter Tryz.func148,Tryz.ntmps148
    go_wp2_with (first
     |(go_at_call 149;(with_reducible refine E1.out.mono ?_);rintro e w' ⟨rfl,rfl⟩)
     |(go_at_call 149;(with_reducible refine E2.out.mono ?_);rintro e w' ⟨rfl,rfl⟩))
    refine T.out.mono ?_
    rintro e w' ⟨A2,c2,rfl,g1,g2,g3,g4⟩
    go_wp2
    go_ret
    exact⟨A2,c2,rfl,g1,g2,g3,g4⟩
 ·obtain⟨T1,T2,T3⟩:=S1.out (by omega)
  by_cases h80:b<80
  ·have T:=zvY (T1 h80)
   clear T1 T2 T3 S1 S2
   go_enter Tryz.func148,Tryz.ntmps148
   go_wp2_with (first
    |(go_at_call 149;(with_reducible refine E1.out.mono ?_);rintro e w' ⟨rfl,rfl⟩)
    |(go_at_call 149;(with_reducible refine E2.out.mono ?_);rintro e w' ⟨rfl,rfl⟩))
   refine T.out.mono ?_
   rintro e w' ⟨A2,c2,rfl,g1,g2,g3,g4⟩
   go_wp2
   go_ret
   exact⟨A2,c2,rfl,g1,g2,g3,g4⟩
  ·by_cases h2:2*b<=a
   ·have T:=zvY (T2 (by omega) h2)
    clear T1 T2 T3 S1 S2
    go_enter Tryz.func148,Tryz.ntmps148
    go_wp2_with (first
     |(go_at_call 149;(with_reducible refine E1.out.mono ?_);rintro e w' ⟨rfl,rfl⟩)
     |(go_at_call 149;(with_reducible refine E2.out.mono ?_);rintro e w' ⟨rfl,rfl⟩))
    refine T.out.mono ?_
    rintro e w' ⟨A2,c2,rfl,g1,g2,g3,g4⟩
    go_wp2
    go_ret
    exact⟨A2,c2,rfl,g1,g2,g3,g4⟩
   ·have T:=zvY (T3 (by omega) (zm4 h2))
    clear T1 T2 T3 S1 S2
    go_enter Tryz.func148,Tryz.ntmps148
    go_wp2_with (first
     |(go_at_call 149;(with_reducible refine E1.out.mono ?_);rintro e w' ⟨rfl,rfl⟩)
     |(go_at_call 149;(with_reducible refine E2.out.mono ?_);rintro e w' ⟨rfl,rfl⟩))
    refine T.out.mono ?_
    rintro e w' ⟨A2,c2,rfl,g1,g2,g3,g4⟩
    go_wp2
    go_ret
    exact⟨A2,c2,rfl,g1,g2,g3,g4⟩
theorem zkL (bx m:Nat):zfu bx m:=by
 induction m with
 |zero=>intro w A A' n n' c c' N M _ _ _ _ _ _ _ _ _ h;omega
 |succ m ih=>exact zol bx m ih
theorem zqj (w:World)(A A':Option Addr)(n n' c c' N M:Nat)(h:Rd w w.heap.size A n N)(h':Rd w w.heap.size A' n' M)(hnc:n<=c)(hcb:c<=maxLen)(hnc':n'<=c')(hcb':c'<=maxLen)(hn:n<=1000000000000)(hn':n'<=1000000000000):
  Calls Tryz.prog 115 #[.slice A n c,.slice A' n' c'] w (Gives w (N*M)):=by
 have hcb:c<=9223372036854775807:=by simpa[maxLen]using hcb
 have hcb':c'<=9223372036854775807:=by simpa[maxLen]using hcb'
 have bx:=Boxed.new w 108 (.func (.func 148) #[] #[.pointer (some ⟨w.heap.size,0,none⟩)])
 have hB:Below w.heap.size w (w.alloc (.cells #[.func (.func 148) #[] #[.pointer (some ⟨w.heap.size,0,none⟩)]] 108)):=(Below.refl _ w).alloc zv0 _
 have E:=zvY (zkL w.heap.size (lenL N+lenL M+1) _ A A' n n' c c' N M bx ((h.below hB).more hB.size) ((h'.below hB).more hB.size) hnc hcb hnc' hcb' hn hn' (by omega))
 go_enter Tryz.func115,Tryz.ntmps115
 go_wp2_with fail
 refine E.out.mono ?_
 intro e w' hg
 obtain⟨A2,c2,rfl,g1,g2,g3,g4⟩:=hg.alloc
 go_wp2
 go_ret
 exact⟨A2,c2,rfl,g1,g2,g3,g4⟩
theorem zl3 {l:List Num}{K:Nat}(h:∀z∈l,z.N<Bw^z.n/\z.n<=K):lenL (ziv l)<=K*l.length+1:=by
 rw[zai]
 induction l with
 |nil=>show 1<Bw^(K*0+1);rw[Nat.mul_zero,Nat.zero_add,Nat.pow_one];decide
 |cons z l ih=>
  have h1:=h z (by simp)
  have h2:=ih (fun y hy=>h y (by simp[hy]))
  have h3:=zcu (zaz h1.1 h1.2) h2
  have e:ziv (z::l)=z.N*ziv l:=by simp[ziv]
  rw[e,List.length_cons,Nat.mul_add,Nat.mul_one,show K*l.length+K+1=K+(K*l.length+1) by omega]
  exact h3
end Go.Proofs.YtipckjmgdghkiaaGreatDoor
