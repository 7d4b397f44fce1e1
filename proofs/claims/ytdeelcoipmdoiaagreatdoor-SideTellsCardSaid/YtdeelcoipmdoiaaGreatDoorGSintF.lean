/- A part. -/
import Derived.Test.YtdeelcoipmdoiaaGreatDoorGSintC
import Derived.Test.YtdeelcoipmdoiaaGreatDoorGQuotB
namespace Go.Proofs.YtdeelcoipmdoiaaGreatDoor
open Go Go.RowKit
section
variable {w W:World}{e:List Num}{x y:Num}
end
section
variable {w0:World}
end
end Go.Proofs.YtdeelcoipmdoiaaGreatDoor
