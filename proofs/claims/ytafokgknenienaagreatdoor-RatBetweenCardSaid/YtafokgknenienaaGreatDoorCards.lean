/-
  DERIVED. GIVEN WITH THE SEED: THE CARDS: each row of YtafokgknenienaaGreatDoorRows.lean that lists a variable, with what it lists TIED to the program's text (the seventh form; the later family's looks); each row that meets fmt, with fmt's text TOLD by the authors' own Lean function (tested against real Go, not proved from fmt's source: count such statements apart). THE CARD IS WHAT COUNTS. Prove the row's statement (the work); the ties are given (YtafokgknenienaaGreatDoorTie.lean); close each card by the builder's one call (the guide's Derived/Test/ToyasCard.lean, 'card_holds'). Laid BY PROGRAM, IN A SANDBOX (cutbox-door.mjs). By AI agents, Wed Nov 11 2026. No macro, syntax, notation, axiom, sorry.
-/
import Derived.Test.YtafokgknenienaaGreatDoorRows
import GoSem.ClaimSeven
namespace Go.Proofs.YtafokgknenienaaGreatDoor
namespace Rows

/-- THE TIED CARD OF 'straitlaw07.RatTells'. -/
def ratTellsCard : Claim7 := { stood := { row := ratTellsRow, standIns := [], harness := (true, "d43ad92c7a2d6f9761afe442eba2ff8c837a2e5cf941812dd797f5fedac6accb"), looks := false }, kinds := [], alts := [], laidByText := true, laidKinds := [.data, .data, .data], laidTests := true, laidLooks := .later }
def RatTellsCardSaid : Prop := Claim7.holds Tryz.pinned (.plain (OpenSpec.ofChange ratTellsSpec)) ratTellsCard

/-- THE TIED CARD OF 'straitlaw07.RatBetween'. -/
def ratBetweenCard : Claim7 := { stood := { row := ratBetweenRow, standIns := [], harness := (true, "d43ad92c7a2d6f9761afe442eba2ff8c837a2e5cf941812dd797f5fedac6accb"), looks := false }, kinds := [], alts := [], laidByText := true, laidKinds := [.data, .data, .data], laidTests := true, laidLooks := .later }
def RatBetweenCardSaid : Prop := Claim7.holds Tryz.pinned (.plain (OpenSpec.ofChange ratBetweenSpec)) ratBetweenCard

/-- THE TIED CARD OF 'straitlaw08.VecTells'. -/
def vecTellsCard : Claim7 := { stood := { row := vecTellsRow, standIns := [], harness := (true, "d43ad92c7a2d6f9761afe442eba2ff8c837a2e5cf941812dd797f5fedac6accb"), looks := false }, kinds := [], alts := [], laidByText := true, laidKinds := [.data, .data, .data], laidTests := true, laidLooks := .later }
def VecTellsCardSaid : Prop := Claim7.holds Tryz.pinned (.plain (OpenSpec.ofChange vecTellsSpec)) vecTellsCard

/-- THE TIED CARD OF 'straitlaw08.VecCross'. -/
def vecCrossCard : Claim7 := { stood := { row := vecCrossRow, standIns := [], harness := (true, "d43ad92c7a2d6f9761afe442eba2ff8c837a2e5cf941812dd797f5fedac6accb"), looks := false }, kinds := [], alts := [], laidByText := true, laidKinds := [.data, .data, .data], laidTests := true, laidLooks := .later }
def VecCrossCardSaid : Prop := Claim7.holds Tryz.pinned (.plain (OpenSpec.ofChange vecCrossSpec)) vecCrossCard

/-- THE TIED CARD OF 'straitlaw08.VecWays'. -/
def vecWaysCard : Claim7 := { stood := { row := vecWaysRow, standIns := [], harness := (true, "d43ad92c7a2d6f9761afe442eba2ff8c837a2e5cf941812dd797f5fedac6accb"), looks := false }, kinds := [], alts := [], laidByText := true, laidKinds := [.data, .data, .data], laidTests := true, laidLooks := .later }
def VecWaysCardSaid : Prop := Claim7.holds Tryz.pinned (.plain (OpenSpec.ofChange vecWaysSpec)) vecWaysCard

/-- THE TIED CARD OF 'straitlaw08.VecOrder'. -/
def vecOrderCard : Claim7 := { stood := { row := vecOrderRow, standIns := [], harness := (true, "d43ad92c7a2d6f9761afe442eba2ff8c837a2e5cf941812dd797f5fedac6accb"), looks := false }, kinds := [], alts := [], laidByText := true, laidKinds := [.data, .data, .data], laidTests := true, laidLooks := .later }
def VecOrderCardSaid : Prop := Claim7.holds Tryz.pinned (.plain (OpenSpec.ofChange vecOrderSpec)) vecOrderCard

/-- THE SECOND FORM's CARD OF 'straitlaw07.RatTells'. -/
def ratTellsUptoCard : Claim7 := { stood := { row := ratTellsUptoRow, standIns := [], harness := (true, "d43ad92c7a2d6f9761afe442eba2ff8c837a2e5cf941812dd797f5fedac6accb"), looks := false }, kinds := [], alts := [], laidByText := true, laidKinds := [.data, .data, .data], laidTests := true, laidLooks := .later }
def RatTellsUptoCardSaid : Prop := Claim7.holds Tryz.pinned (.plain (OpenSpec.upto ratTellsSpec)) ratTellsUptoCard

/-- THE SECOND FORM's CARD OF 'straitlaw07.RatBetween'. -/
def ratBetweenUptoCard : Claim7 := { stood := { row := ratBetweenUptoRow, standIns := [], harness := (true, "d43ad92c7a2d6f9761afe442eba2ff8c837a2e5cf941812dd797f5fedac6accb"), looks := false }, kinds := [], alts := [], laidByText := true, laidKinds := [.data, .data, .data], laidTests := true, laidLooks := .later }
def RatBetweenUptoCardSaid : Prop := Claim7.holds Tryz.pinned (.plain (OpenSpec.upto ratBetweenSpec)) ratBetweenUptoCard

/-- THE SECOND FORM's CARD OF 'straitlaw08.VecTells'. -/
def vecTellsUptoCard : Claim7 := { stood := { row := vecTellsUptoRow, standIns := [], harness := (true, "d43ad92c7a2d6f9761afe442eba2ff8c837a2e5cf941812dd797f5fedac6accb"), looks := false }, kinds := [], alts := [], laidByText := true, laidKinds := [.data, .data, .data], laidTests := true, laidLooks := .later }
def VecTellsUptoCardSaid : Prop := Claim7.holds Tryz.pinned (.plain (OpenSpec.upto vecTellsSpec)) vecTellsUptoCard

/-- THE SECOND FORM's CARD OF 'straitlaw08.VecCross'. -/
def vecCrossUptoCard : Claim7 := { stood := { row := vecCrossUptoRow, standIns := [], harness := (true, "d43ad92c7a2d6f9761afe442eba2ff8c837a2e5cf941812dd797f5fedac6accb"), looks := false }, kinds := [], alts := [], laidByText := true, laidKinds := [.data, .data, .data], laidTests := true, laidLooks := .later }
def VecCrossUptoCardSaid : Prop := Claim7.holds Tryz.pinned (.plain (OpenSpec.upto vecCrossSpec)) vecCrossUptoCard

/-- THE SECOND FORM's CARD OF 'straitlaw08.VecWays'. -/
def vecWaysUptoCard : Claim7 := { stood := { row := vecWaysUptoRow, standIns := [], harness := (true, "d43ad92c7a2d6f9761afe442eba2ff8c837a2e5cf941812dd797f5fedac6accb"), looks := false }, kinds := [], alts := [], laidByText := true, laidKinds := [.data, .data, .data], laidTests := true, laidLooks := .later }
def VecWaysUptoCardSaid : Prop := Claim7.holds Tryz.pinned (.plain (OpenSpec.upto vecWaysSpec)) vecWaysUptoCard

/-- THE SECOND FORM's CARD OF 'straitlaw08.VecOrder'. -/
def vecOrderUptoCard : Claim7 := { stood := { row := vecOrderUptoRow, standIns := [], harness := (true, "d43ad92c7a2d6f9761afe442eba2ff8c837a2e5cf941812dd797f5fedac6accb"), looks := false }, kinds := [], alts := [], laidByText := true, laidKinds := [.data, .data, .data], laidTests := true, laidLooks := .later }
def VecOrderUptoCardSaid : Prop := Claim7.holds Tryz.pinned (.plain (OpenSpec.upto vecOrderSpec)) vecOrderUptoCard
end Rows
end Go.Proofs.YtafokgknenienaaGreatDoor
