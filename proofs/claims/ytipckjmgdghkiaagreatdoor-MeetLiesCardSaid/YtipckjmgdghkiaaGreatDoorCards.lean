/-
  DERIVED. GIVEN WITH THE SEED: THE CARDS: each row of YtipckjmgdghkiaaGreatDoorRows.lean that lists a variable, with what it lists TIED to the program's text (the seventh form; the later family's looks); each row that meets fmt, with fmt's text TOLD by the authors' own Lean function (tested against real Go, not proved from fmt's source: count such statements apart). THE CARD IS WHAT COUNTS. Prove the row's statement (the work); the ties are given (YtipckjmgdghkiaaGreatDoorTie.lean); close each card by the builder's one call (the guide's Derived/Test/ToyasCard.lean, 'card_holds'). Laid BY PROGRAM, IN A SANDBOX (cutbox-door.mjs). By AI agents, Wed Nov 11 2026. No macro, syntax, notation, axiom, sorry.
-/
import Derived.Test.YtipckjmgdghkiaaGreatDoorRows
import GoSem.ClaimSeven
namespace Go.Proofs.YtipckjmgdghkiaaGreatDoor
namespace Rows

/-- THE TIED CARD OF 'straitlaw10.MeetTells'. -/
def meetTellsCard : Claim7 := { stood := { row := meetTellsRow, standIns := [], harness := (true, "e8291a5d22a743f9ea725275b541a6c277e8c7ae8f8e8a2b5d91f0260fad0950"), looks := false }, kinds := [], alts := [], laidByText := true, laidKinds := [.data, .data, .data], laidTests := true, laidLooks := .later }
def MeetTellsCardSaid : Prop := Claim7.holds Tryz.pinned (.plain (OpenSpec.ofChange meetTellsSpec)) meetTellsCard

/-- THE TIED CARD OF 'straitlaw10.MeetTurns'. -/
def meetTurnsCard : Claim7 := { stood := { row := meetTurnsRow, standIns := [], harness := (true, "e8291a5d22a743f9ea725275b541a6c277e8c7ae8f8e8a2b5d91f0260fad0950"), looks := false }, kinds := [], alts := [], laidByText := true, laidKinds := [.data, .data, .data], laidTests := true, laidLooks := .later }
def MeetTurnsCardSaid : Prop := Claim7.holds Tryz.pinned (.plain (OpenSpec.ofChange meetTurnsSpec)) meetTurnsCard

/-- THE TIED CARD OF 'straitlaw10.MeetLies'. -/
def meetLiesCard : Claim7 := { stood := { row := meetLiesRow, standIns := [], harness := (true, "e8291a5d22a743f9ea725275b541a6c277e8c7ae8f8e8a2b5d91f0260fad0950"), looks := false }, kinds := [], alts := [], laidByText := true, laidKinds := [.data, .data, .data], laidTests := true, laidLooks := .later }
def MeetLiesCardSaid : Prop := Claim7.holds Tryz.pinned (.plain (OpenSpec.ofChange meetLiesSpec)) meetLiesCard

/-- THE TIED CARD OF 'straitlaw10.MeetHeights'. -/
def meetHeightsCard : Claim7 := { stood := { row := meetHeightsRow, standIns := [], harness := (true, "e8291a5d22a743f9ea725275b541a6c277e8c7ae8f8e8a2b5d91f0260fad0950"), looks := false }, kinds := [], alts := [], laidByText := true, laidKinds := [.data, .data, .data], laidTests := true, laidLooks := .later }
def MeetHeightsCardSaid : Prop := Claim7.holds Tryz.pinned (.plain (OpenSpec.ofChange meetHeightsSpec)) meetHeightsCard

/-- THE TIED CARD OF 'straitlaw10.MeetAll'. -/
def meetAllCard : Claim7 := { stood := { row := meetAllRow, standIns := [], harness := (true, "e8291a5d22a743f9ea725275b541a6c277e8c7ae8f8e8a2b5d91f0260fad0950"), looks := false }, kinds := [], alts := [], laidByText := true, laidKinds := [.data, .data, .data], laidTests := true, laidLooks := .later }
def MeetAllCardSaid : Prop := Claim7.holds Tryz.pinned (.plain (OpenSpec.ofChange meetAllSpec)) meetAllCard

/-- THE SECOND FORM's CARD OF 'straitlaw10.MeetTells'. -/
def meetTellsUptoCard : Claim7 := { stood := { row := meetTellsUptoRow, standIns := [], harness := (true, "e8291a5d22a743f9ea725275b541a6c277e8c7ae8f8e8a2b5d91f0260fad0950"), looks := false }, kinds := [], alts := [], laidByText := true, laidKinds := [.data, .data, .data], laidTests := true, laidLooks := .later }
def MeetTellsUptoCardSaid : Prop := Claim7.holds Tryz.pinned (.plain (OpenSpec.upto meetTellsSpec)) meetTellsUptoCard

/-- THE SECOND FORM's CARD OF 'straitlaw10.MeetTurns'. -/
def meetTurnsUptoCard : Claim7 := { stood := { row := meetTurnsUptoRow, standIns := [], harness := (true, "e8291a5d22a743f9ea725275b541a6c277e8c7ae8f8e8a2b5d91f0260fad0950"), looks := false }, kinds := [], alts := [], laidByText := true, laidKinds := [.data, .data, .data], laidTests := true, laidLooks := .later }
def MeetTurnsUptoCardSaid : Prop := Claim7.holds Tryz.pinned (.plain (OpenSpec.upto meetTurnsSpec)) meetTurnsUptoCard

/-- THE SECOND FORM's CARD OF 'straitlaw10.MeetLies'. -/
def meetLiesUptoCard : Claim7 := { stood := { row := meetLiesUptoRow, standIns := [], harness := (true, "e8291a5d22a743f9ea725275b541a6c277e8c7ae8f8e8a2b5d91f0260fad0950"), looks := false }, kinds := [], alts := [], laidByText := true, laidKinds := [.data, .data, .data], laidTests := true, laidLooks := .later }
def MeetLiesUptoCardSaid : Prop := Claim7.holds Tryz.pinned (.plain (OpenSpec.upto meetLiesSpec)) meetLiesUptoCard

/-- THE SECOND FORM's CARD OF 'straitlaw10.MeetHeights'. -/
def meetHeightsUptoCard : Claim7 := { stood := { row := meetHeightsUptoRow, standIns := [], harness := (true, "e8291a5d22a743f9ea725275b541a6c277e8c7ae8f8e8a2b5d91f0260fad0950"), looks := false }, kinds := [], alts := [], laidByText := true, laidKinds := [.data, .data, .data], laidTests := true, laidLooks := .later }
def MeetHeightsUptoCardSaid : Prop := Claim7.holds Tryz.pinned (.plain (OpenSpec.upto meetHeightsSpec)) meetHeightsUptoCard

/-- THE SECOND FORM's CARD OF 'straitlaw10.MeetAll'. -/
def meetAllUptoCard : Claim7 := { stood := { row := meetAllUptoRow, standIns := [], harness := (true, "e8291a5d22a743f9ea725275b541a6c277e8c7ae8f8e8a2b5d91f0260fad0950"), looks := false }, kinds := [], alts := [], laidByText := true, laidKinds := [.data, .data, .data], laidTests := true, laidLooks := .later }
def MeetAllUptoCardSaid : Prop := Claim7.holds Tryz.pinned (.plain (OpenSpec.upto meetAllSpec)) meetAllUptoCard
end Rows
end Go.Proofs.YtipckjmgdghkiaaGreatDoor
