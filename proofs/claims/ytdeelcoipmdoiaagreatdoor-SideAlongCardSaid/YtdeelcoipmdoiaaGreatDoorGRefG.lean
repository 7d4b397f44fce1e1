/- A part. -/
import Derived.Test.YtdeelcoipmdoiaaGreatDoorGRefF
import Derived.Test.YtdeelcoipmdoiaaGreatDoorGSintF
set_option maxHeartbeats 2000000
set_option maxRecDepth 100000
namespace Go.Proofs.YtdeelcoipmdoiaaGreatDoor
open Go Go.RowKit
section
variable {w W:World}{e:List Num}{x y:Num}
theorem zqX {b:Bool}{Z Y:Int}(h:Env w e W)(hx:x∈e)(hz:zOf b x.N=Z)(hY: -Z=Y):
  Calls Tryz.prog 78 #[.agg #[.bool b,.slice x.A x.n x.c]] W (Zs w e Y):=by
 have HE:=(h.alloc (.cells #[.bool b,.slice x.A x.n x.c] 25)).alloc (.cells #[.bool false,.slice none 0 0] 25)
 have hs:=h.1.size
 have B1:=(Box2.new W 25 (.bool b) (.slice x.A x.n x.c)).alloc (.cells #[.bool false,.slice none 0 0] 25)
 have B2:=Box2.new (W.alloc (.cells #[.bool b,.slice x.A x.n x.c] 25)) 25 (.bool false) (.slice none 0 0)
 rw[World.size_alloc]at B2
 obtain⟨W1,hW1⟩:∃W1,(W.alloc (.cells #[.bool b,.slice x.A x.n x.c] 25)).alloc (.cells #[.bool false,.slice none 0 0] 25)=W1:=⟨_,rfl⟩
 rw[hW1]at HE B1 B2
 have HO:=zt1 HE.1
 have EN:=zcK (!b) HE.here hx
 rw[show zOf (!b) x.N=Y by rw[←hY,←hz];cases b <;> simp[zOf]]at EN
 replace EN:=zt1 EN
 replace HE:=zt1 HE.here
 replace B2:=zt1 B2
 obtain⟨c1,c2,-,-⟩:=B1.cells
 clear h hx hz hY B1
 go_enter Tryz.func78,Tryz.ntmps78
 go_wp2_with fail
 clear hW1
 refine EN.out.mono ?_
 rintro e2 W3 ⟨r,rfl,rN,rn,hE3⟩
 have hB3:=B2.out.below hE3.1 B2.out.lt
 obtain⟨d1,d2,d3,d4⟩:=hB3.cells
 have HB3:=zt1 hB3
 have HZ:=zt1 (zfJ HO.out HE.out hE3.1 (hE3.2 r (by simp)) hB3 (by omega) rN rn)
 clear hB3 hE3 rN rn c1 c2
 go_wp2
 exact bodyPost_ret (zbw (HB3.out.set _ _) rfl rfl) rfl HZ.out
end
end Go.Proofs.YtdeelcoipmdoiaaGreatDoor
