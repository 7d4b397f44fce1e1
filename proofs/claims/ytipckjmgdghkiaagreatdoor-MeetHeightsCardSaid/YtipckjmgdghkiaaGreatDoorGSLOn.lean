/- A part. -/
import Derived.Test.YtipckjmgdghkiaaGreatDoorGSidG
namespace Go.Proofs.YtipckjmgdghkiaaGreatDoor
open Go Go.RowKit
section
variable {a a' b b' p p' t:Rat}{z0 z1:Int}
end
end Go.Proofs.YtipckjmgdghkiaaGreatDoor
