/- Contracts of the reference's Neg, Sub, Cmp, Same of layer 5. -/
import Derived.Test.YtdajbmjknilmiaaGreatDoorGRefF
import Derived.Test.YtdajbmjknilmiaaGreatDoorGRefH
import Derived.Test.YtdajbmjknilmiaaGreatDoorGSintF
namespace Go.Proofs.YtdajbmjknilmiaaGreatDoor
open Go Go.RowKit
variable {w W : World} {e : List Num} {x y : Num}

end Go.Proofs.YtdajbmjknilmiaaGreatDoor

/- Contract of the reference's Div of layer 5: divided downwards. -/
namespace Go.Proofs.YtdajbmjknilmiaaGreatDoor
open Go Go.RowKit
variable {w W : World} {e : List Num} {x y : Num}

end Go.Proofs.YtdajbmjknilmiaaGreatDoor
