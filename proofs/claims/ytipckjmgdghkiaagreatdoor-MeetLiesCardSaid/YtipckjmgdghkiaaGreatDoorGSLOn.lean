/- A part. -/
import Derived.Test.YtipckjmgdghkiaaGreatDoorGSidG
namespace Go.Proofs.YtipckjmgdghkiaaGreatDoor
open Go Go.RowKit
section
variable {a a' b b' p p' t:Rat}{z0 z1:Int}
theorem zsF:onR a a' b b' p p'=true↔crs a a' b b' p p'=0/\0<=zgQ a a' p p' b b':=by simp[onR]
theorem zum (h:0<=zan 0 t*zan t 1):0<=t/\t<=1:=by
 have h1:=zvr t
 rcases tri 0 t with h2|h2|h2 <;> rcases tri t 1 with h3|h3|h3 <;> rw[h2,h3]at h h1 <;> first|(exfalso;revert h;decide)|(exfalso;omega)|exact⟨zdI.1 (by omega),zdI.1 (by omega)⟩
theorem zun (h:onR a a' b b' p p'=true):decide (zan (absR (a - p)+absR (a' - p')+(absR (p - b)+absR (p' - b'))) (absR (a - b)+absR (a' - b'))=0)=true:=by
 obtain⟨h1,h2⟩:=zsF.1 h
 refine decide_eq_true (zbZ.2 ?_)
 by_cases hab:a=b/\a'=b'
 ·obtain⟨rfl,rfl⟩:=hab
  rw[ziQ]at h2
  have h3:za0 a a' p p'=0:=by
   have h4:=zdA a a' p p'
   rcases(by omega:za0 a a' p p'= -1\/za0 a a' p p'=0\/za0 a a' p p'=1)with h5|h5|h5 <;> rw[h5]at h2 <;> first|exact h5|(exfalso;revert h2;decide)
  obtain⟨rfl,rfl⟩:=zeP.1 h3
  rw[show a - a=0 by grind,show a' - a'=0 by grind]
  decide+kernel
 ·obtain⟨t,rfl,rfl⟩:=zhQ h1 hab
  rw[znh hab]at h2
  obtain⟨h3,h4⟩:=zum h2
  have e1:=zlm h3 h4 a b
  have e2:=zlm h3 h4 a' b'
  rw[zdq a,zdq a',zdq (a+_) b,zdq (a'+_) b',zdq a b,zdq a' b']
  grind
end
end Go.Proofs.YtipckjmgdghkiaaGreatDoor
