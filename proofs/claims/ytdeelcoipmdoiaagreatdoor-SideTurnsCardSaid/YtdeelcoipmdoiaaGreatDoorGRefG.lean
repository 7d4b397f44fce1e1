/- A part. -/
import Derived.Test.YtdeelcoipmdoiaaGreatDoorGRefF
import Derived.Test.YtdeelcoipmdoiaaGreatDoorGSintF
namespace Go.Proofs.YtdeelcoipmdoiaaGreatDoor
open Go Go.RowKit
section
variable {w W:World}{e:List Num}{x y:Num}
end
end Go.Proofs.YtdeelcoipmdoiaaGreatDoor
