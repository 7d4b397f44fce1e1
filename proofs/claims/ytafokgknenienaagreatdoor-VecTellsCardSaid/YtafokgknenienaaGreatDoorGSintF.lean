/- A part. -/
import Derived.Test.YtafokgknenienaaGreatDoorGSintC
import Derived.Test.YtafokgknenienaaGreatDoorGQuotB
namespace Go.Proofs.YtafokgknenienaaGreatDoor
open Go Go.RowKit
section
variable {w W:World}{e:List Num}{x y:Num}
end
section
variable {w0:World}
end
end Go.Proofs.YtafokgknenienaaGreatDoor
