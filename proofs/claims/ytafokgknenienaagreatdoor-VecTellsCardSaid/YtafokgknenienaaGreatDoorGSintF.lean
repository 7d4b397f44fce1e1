/- A part of the proof. -/
import Derived.Test.YtafokgknenienaaGreatDoorGSintC
import Derived.Test.YtafokgknenienaaGreatDoorGQuotB
namespace Go.Proofs.YtafokgknenienaaGreatDoor
open Go Go.RowKit
section
end
section
variable {w W:World}{e:List Num}{x y:Num}
end
section
variable {w0:World}
end
end Go.Proofs.YtafokgknenienaaGreatDoor
