/- Dividing downwards, by the naturals' quotient and rest. No function of the program. -/
import Derived.Test.YtafokgknenienaaGreatDoorGSintC
import Derived.Test.YtafokgknenienaaGreatDoorGQuotB
namespace Go.Proofs.YtafokgknenienaaGreatDoor
open Go Go.RowKit
end Go.Proofs.YtafokgknenienaaGreatDoor
namespace Go.Proofs.YtafokgknenienaaGreatDoor
open Go Go.RowKit
variable {w W : World} {e : List Num} {x y : Num}
end Go.Proofs.YtafokgknenienaaGreatDoor
namespace Go.Proofs.YtafokgknenienaaGreatDoor
open Go Go.RowKit
variable {w0 : World}
end Go.Proofs.YtafokgknenienaaGreatDoor
