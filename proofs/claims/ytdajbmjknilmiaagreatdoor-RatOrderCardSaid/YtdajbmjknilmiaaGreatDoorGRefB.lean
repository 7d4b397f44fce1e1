/- Contract of the reference's Sub of layer 1. -/
import Derived.Test.YtdajbmjknilmiaaGreatDoorGRefA
import Derived.Test.YtdajbmjknilmiaaGreatDoorGNum
namespace Go.Proofs.YtdajbmjknilmiaaGreatDoor
open Go Go.RowKit

end Go.Proofs.YtdajbmjknilmiaaGreatDoor

/- The reference's difference, over numbers at hand. -/
namespace Go.Proofs.YtdajbmjknilmiaaGreatDoor
open Go Go.RowKit

end Go.Proofs.YtdajbmjknilmiaaGreatDoor

/- Contract of the reference's product of layer 2: limb times limb, with what is carried. -/
namespace Go.Proofs.YtdajbmjknilmiaaGreatDoor
open Go Go.RowKit

end Go.Proofs.YtdajbmjknilmiaaGreatDoor

/- The reference's product of layer 2, over numbers at hand. -/
namespace Go.Proofs.YtdajbmjknilmiaaGreatDoor
open Go Go.RowKit

section
variable {w W : World} {e : List Num} {x y : Num}
end
end Go.Proofs.YtdajbmjknilmiaaGreatDoor
