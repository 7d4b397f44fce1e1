/- Contract of the reference's twos of layer 4: how often a number can be halved. -/
import Derived.Deep.LoopGhost
import Derived.Test.YtdajbmjknilmiaaGreatDoorGNum
import Derived.Test.YtdajbmjknilmiaaGreatDoorGRefC
import Derived.Test.YtdajbmjknilmiaaGreatDoorGRefA
import Derived.Test.YtdajbmjknilmiaaGreatDoorGRefB
namespace Go.Proofs.YtdajbmjknilmiaaGreatDoor
open Go Go.RowKit

end Go.Proofs.YtdajbmjknilmiaaGreatDoor

/- Contract of the reference's Gcd of layer 4: halving, and taking the less from the greater. -/
namespace Go.Proofs.YtdajbmjknilmiaaGreatDoor
open Go Go.RowKit

end Go.Proofs.YtdajbmjknilmiaaGreatDoor

/- The reference's Gcd of layer 4, over numbers at hand. -/
namespace Go.Proofs.YtdajbmjknilmiaaGreatDoor
open Go Go.RowKit

end Go.Proofs.YtdajbmjknilmiaaGreatDoor
