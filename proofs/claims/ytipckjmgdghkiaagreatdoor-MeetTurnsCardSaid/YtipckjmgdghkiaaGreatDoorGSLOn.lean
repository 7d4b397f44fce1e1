/- A part. -/
import Derived.Test.YtipckjmgdghkiaaGreatDoorGSidG
namespace Go.Proofs.YtipckjmgdghkiaaGreatDoor
open Go Go.RowKit
section
variable {a a' b b' p p' t:Rat}{z0 z1:Int}
theorem zto:onR a a' b b' p p'=true↔crs a a' b b' p p'=0/\0<=zhi a a' p p' b b':=by simp[onR]
theorem zu5 (h:0<=zaq 0 t*zaq t 1):0<=t/\t<=1:=by
 have h1:=zv8 t
 rcases tri 0 t with h2|h2|h2 <;> rcases tri t 1 with h3|h3|h3 <;> rw[h2,h3]at h h1 <;> first|(exfalso;revert h;decide)|(exfalso;omega)|exact⟨zdW.1 (by omega),zdW.1 (by omega)⟩
theorem zu6 (h:onR a a' b b' p p'=true):decide (zaq (absR (a - p)+absR (a' - p')+(absR (p - b)+absR (p' - b'))) (absR (a - b)+absR (a' - b'))=0)=true:=by
 obtain⟨h1,h2⟩:=zto.1 h
 refine decide_eq_true (zbC.2 ?_)
 by_cases hab:a=b/\a'=b'
 ·obtain⟨rfl,rfl⟩:=hab
  rw[zjk]at h2
  have h3:za7 a a' p p'=0:=by
   have h4:=zdL a a' p p'
   rcases(by omega:za7 a a' p p'= -1\/za7 a a' p p'=0\/za7 a a' p p'=1)with h5|h5|h5 <;> rw[h5]at h2 <;> first|exact h5|(exfalso;revert h2;decide)
  obtain⟨rfl,rfl⟩:=ze7.1 h3
  rw[show a - a=0 by grind,show a' - a'=0 by grind]
  decide+kernel
 ·obtain⟨t,rfl,rfl⟩:=zif h1 hab
  rw[znW hab]at h2
  obtain⟨h3,h4⟩:=zu5 h2
  have e1:=zlU h3 h4 a b
  have e2:=zlU h3 h4 a' b'
  rw[zdC a,zdC a',zdC (a+_) b,zdC (a'+_) b',zdC a b,zdC a' b']
  grind
end
end Go.Proofs.YtipckjmgdghkiaaGreatDoor
