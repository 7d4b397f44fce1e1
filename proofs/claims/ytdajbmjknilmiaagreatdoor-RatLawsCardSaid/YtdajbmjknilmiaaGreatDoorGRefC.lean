/- Contract of the reference's count of layer 2. -/
import Derived.Test.YtdajbmjknilmiaaGreatDoorGNum
import Derived.Test.YtdajbmjknilmiaaGreatDoorGRefA
namespace Go.Proofs.YtdajbmjknilmiaaGreatDoor
open Go Go.RowKit

end Go.Proofs.YtdajbmjknilmiaaGreatDoor

/- Contract of the reference's Up of layer 2: shifted up. -/
namespace Go.Proofs.YtdajbmjknilmiaaGreatDoor
open Go Go.RowKit

end Go.Proofs.YtdajbmjknilmiaaGreatDoor

/- The reference's Up, over numbers at hand. -/
namespace Go.Proofs.YtdajbmjknilmiaaGreatDoor
open Go Go.RowKit

section
variable {w W : World} {e : List Num} {x y : Num}
end
end Go.Proofs.YtdajbmjknilmiaaGreatDoor

/- Contract of the reference's Down of layer 2: shifted down. -/
namespace Go.Proofs.YtdajbmjknilmiaaGreatDoor
open Go Go.RowKit

end Go.Proofs.YtdajbmjknilmiaaGreatDoor

/- The reference's Down, over numbers at hand. -/
namespace Go.Proofs.YtdajbmjknilmiaaGreatDoor
open Go Go.RowKit

section
variable {w W : World} {e : List Num} {x y : Num}
end
end Go.Proofs.YtdajbmjknilmiaaGreatDoor
