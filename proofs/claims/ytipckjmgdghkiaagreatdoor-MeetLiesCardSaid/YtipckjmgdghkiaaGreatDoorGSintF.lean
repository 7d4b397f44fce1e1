/- A part. -/
import Derived.Test.YtipckjmgdghkiaaGreatDoorGSintC
import Derived.Test.YtipckjmgdghkiaaGreatDoorGQuotB
namespace Go.Proofs.YtipckjmgdghkiaaGreatDoor
open Go Go.RowKit
section
variable {w W:World}{e:List Num}{x y:Num}
end
section
variable {w0:World}
end
end Go.Proofs.YtipckjmgdghkiaaGreatDoor
