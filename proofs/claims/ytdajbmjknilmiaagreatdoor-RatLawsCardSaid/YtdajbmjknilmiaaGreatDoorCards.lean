/-
  DERIVED. GIVEN WITH THE SEED: THE CARDS: each row of YtdajbmjknilmiaaGreatDoorRows.lean that lists a variable, with what it lists TIED to the program's text (the seventh form; the later family's looks); each row that meets fmt, with fmt's text TOLD by the authors' own Lean function (tested against real Go, not proved from fmt's source: count such statements apart). THE CARD IS WHAT COUNTS. Prove the row's statement (the work); the ties are given (YtdajbmjknilmiaaGreatDoorTie.lean); close each card by the builder's one call (the guide's Derived/Test/ToyasCard.lean, 'card_holds'). Laid BY PROGRAM, IN A SANDBOX (cutbox-door.mjs). By AI agents, Wed Nov 11 2026. No macro, syntax, notation, axiom, sorry.
-/
import Derived.Test.YtdajbmjknilmiaaGreatDoorRows
import GoSem.ClaimSeven
namespace Go.Proofs.YtdajbmjknilmiaaGreatDoor
namespace Rows

/-- THE TIED CARD OF 'straitlaw07.RatTells'. -/
def ratTellsCard : Claim7 := { stood := { row := ratTellsRow, standIns := [], harness := (true, "6fa3b079d4b039465d5fceb86ffecfb75675cb1bb1661991b4aa417d2d7a06e3"), looks := false }, kinds := [], alts := [], laidByText := true, laidKinds := [.data, .data, .data], laidTests := true, laidLooks := .later }
def RatTellsCardSaid : Prop := Claim7.holds Tryz.pinned (.plain (OpenSpec.ofChange ratTellsSpec)) ratTellsCard

/-- THE TIED CARD OF 'straitlaw07.RatLaws'. -/
def ratLawsCard : Claim7 := { stood := { row := ratLawsRow, standIns := [], harness := (true, "6fa3b079d4b039465d5fceb86ffecfb75675cb1bb1661991b4aa417d2d7a06e3"), looks := false }, kinds := [], alts := [], laidByText := true, laidKinds := [.data, .data, .data], laidTests := true, laidLooks := .later }
def RatLawsCardSaid : Prop := Claim7.holds Tryz.pinned (.plain (OpenSpec.ofChange ratLawsSpec)) ratLawsCard

/-- THE TIED CARD OF 'straitlaw07.RatNorm'. -/
def ratNormCard : Claim7 := { stood := { row := ratNormRow, standIns := [], harness := (true, "6fa3b079d4b039465d5fceb86ffecfb75675cb1bb1661991b4aa417d2d7a06e3"), looks := false }, kinds := [], alts := [], laidByText := true, laidKinds := [.data, .data, .data], laidTests := true, laidLooks := .later }
def RatNormCardSaid : Prop := Claim7.holds Tryz.pinned (.plain (OpenSpec.ofChange ratNormSpec)) ratNormCard

/-- THE TIED CARD OF 'straitlaw07.RatOrder'. -/
def ratOrderCard : Claim7 := { stood := { row := ratOrderRow, standIns := [], harness := (true, "6fa3b079d4b039465d5fceb86ffecfb75675cb1bb1661991b4aa417d2d7a06e3"), looks := false }, kinds := [], alts := [], laidByText := true, laidKinds := [.data, .data, .data], laidTests := true, laidLooks := .later }
def RatOrderCardSaid : Prop := Claim7.holds Tryz.pinned (.plain (OpenSpec.ofChange ratOrderSpec)) ratOrderCard

/-- THE TIED CARD OF 'straitlaw07.RatBetween'. -/
def ratBetweenCard : Claim7 := { stood := { row := ratBetweenRow, standIns := [], harness := (true, "6fa3b079d4b039465d5fceb86ffecfb75675cb1bb1661991b4aa417d2d7a06e3"), looks := false }, kinds := [], alts := [], laidByText := true, laidKinds := [.data, .data, .data], laidTests := true, laidLooks := .later }
def RatBetweenCardSaid : Prop := Claim7.holds Tryz.pinned (.plain (OpenSpec.ofChange ratBetweenSpec)) ratBetweenCard

/-- THE SECOND FORM's CARD OF 'straitlaw07.RatTells'. -/
def ratTellsUptoCard : Claim7 := { stood := { row := ratTellsUptoRow, standIns := [], harness := (true, "6fa3b079d4b039465d5fceb86ffecfb75675cb1bb1661991b4aa417d2d7a06e3"), looks := false }, kinds := [], alts := [], laidByText := true, laidKinds := [.data, .data, .data], laidTests := true, laidLooks := .later }
def RatTellsUptoCardSaid : Prop := Claim7.holds Tryz.pinned (.plain (OpenSpec.upto ratTellsSpec)) ratTellsUptoCard

/-- THE SECOND FORM's CARD OF 'straitlaw07.RatLaws'. -/
def ratLawsUptoCard : Claim7 := { stood := { row := ratLawsUptoRow, standIns := [], harness := (true, "6fa3b079d4b039465d5fceb86ffecfb75675cb1bb1661991b4aa417d2d7a06e3"), looks := false }, kinds := [], alts := [], laidByText := true, laidKinds := [.data, .data, .data], laidTests := true, laidLooks := .later }
def RatLawsUptoCardSaid : Prop := Claim7.holds Tryz.pinned (.plain (OpenSpec.upto ratLawsSpec)) ratLawsUptoCard

/-- THE SECOND FORM's CARD OF 'straitlaw07.RatNorm'. -/
def ratNormUptoCard : Claim7 := { stood := { row := ratNormUptoRow, standIns := [], harness := (true, "6fa3b079d4b039465d5fceb86ffecfb75675cb1bb1661991b4aa417d2d7a06e3"), looks := false }, kinds := [], alts := [], laidByText := true, laidKinds := [.data, .data, .data], laidTests := true, laidLooks := .later }
def RatNormUptoCardSaid : Prop := Claim7.holds Tryz.pinned (.plain (OpenSpec.upto ratNormSpec)) ratNormUptoCard

/-- THE SECOND FORM's CARD OF 'straitlaw07.RatOrder'. -/
def ratOrderUptoCard : Claim7 := { stood := { row := ratOrderUptoRow, standIns := [], harness := (true, "6fa3b079d4b039465d5fceb86ffecfb75675cb1bb1661991b4aa417d2d7a06e3"), looks := false }, kinds := [], alts := [], laidByText := true, laidKinds := [.data, .data, .data], laidTests := true, laidLooks := .later }
def RatOrderUptoCardSaid : Prop := Claim7.holds Tryz.pinned (.plain (OpenSpec.upto ratOrderSpec)) ratOrderUptoCard

/-- THE SECOND FORM's CARD OF 'straitlaw07.RatBetween'. -/
def ratBetweenUptoCard : Claim7 := { stood := { row := ratBetweenUptoRow, standIns := [], harness := (true, "6fa3b079d4b039465d5fceb86ffecfb75675cb1bb1661991b4aa417d2d7a06e3"), looks := false }, kinds := [], alts := [], laidByText := true, laidKinds := [.data, .data, .data], laidTests := true, laidLooks := .later }
def RatBetweenUptoCardSaid : Prop := Claim7.holds Tryz.pinned (.plain (OpenSpec.upto ratBetweenSpec)) ratBetweenUptoCard
end Rows
end Go.Proofs.YtdajbmjknilmiaaGreatDoor
