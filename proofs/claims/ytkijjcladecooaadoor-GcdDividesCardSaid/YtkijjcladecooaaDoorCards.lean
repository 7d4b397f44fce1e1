/-
  DERIVED. GIVEN WITH THE SEED: THE CARDS: each row of YtkijjcladecooaaDoorRows.lean that lists a variable, with what it lists TIED to the program's text (the seventh form; the later family's looks); each row that meets fmt, with fmt's text TOLD by the authors' own Lean function (tested against real Go, not proved from fmt's source: count such statements apart). THE CARD IS WHAT COUNTS. Prove the row's statement (the work); the ties are given (YtkijjcladecooaaDoorTie.lean); close each card by the builder's one call (the guide's Derived/Test/ToyasCard.lean, 'card_holds'). Laid BY PROGRAM, IN A SANDBOX (cutbox-door.mjs). By AI agents, Wed Nov 11 2026. No macro, syntax, notation, axiom, sorry.
-/
import Derived.Test.YtkijjcladecooaaDoorRows
import GoSem.ClaimSeven
namespace Go.Proofs.YtkijjcladecooaaDoor
namespace Rows

/-- THE TIED CARD OF 'straitlaw04.GcdTells'. -/
def gcdTellsCard : Claim7 := { stood := { row := gcdTellsRow, standIns := [], harness := (true, "75b607c22bd1d23b456fc3303f01c396ee862a8f9623435b2a2db2f61b0ba804"), looks := false }, kinds := [], alts := [], laidByText := true, laidKinds := [.data, .data], laidTests := true, laidLooks := .later }
def GcdTellsCardSaid : Prop := Claim7.holds Tryd.pinned (.plain (OpenSpec.ofChange gcdTellsSpec)) gcdTellsCard

/-- THE TIED CARD OF 'straitlaw04.GcdDivides'. -/
def gcdDividesCard : Claim7 := { stood := { row := gcdDividesRow, standIns := [], harness := (true, "75b607c22bd1d23b456fc3303f01c396ee862a8f9623435b2a2db2f61b0ba804"), looks := false }, kinds := [], alts := [], laidByText := true, laidKinds := [.data, .data], laidTests := true, laidLooks := .later }
def GcdDividesCardSaid : Prop := Claim7.holds Tryd.pinned (.plain (OpenSpec.ofChange gcdDividesSpec)) gcdDividesCard

/-- THE TIED CARD OF 'straitlaw04.GcdReduces'. -/
def gcdReducesCard : Claim7 := { stood := { row := gcdReducesRow, standIns := [], harness := (true, "75b607c22bd1d23b456fc3303f01c396ee862a8f9623435b2a2db2f61b0ba804"), looks := false }, kinds := [], alts := [], laidByText := true, laidKinds := [.data, .data], laidTests := true, laidLooks := .later }
def GcdReducesCardSaid : Prop := Claim7.holds Tryd.pinned (.plain (OpenSpec.ofChange gcdReducesSpec)) gcdReducesCard

/-- THE TIED CARD OF 'straitlaw04.GcdOwn'. -/
def gcdOwnCard : Claim7 := { stood := { row := gcdOwnRow, standIns := [], harness := (true, "75b607c22bd1d23b456fc3303f01c396ee862a8f9623435b2a2db2f61b0ba804"), looks := false }, kinds := [], alts := [], laidByText := true, laidKinds := [.data, .data], laidTests := true, laidLooks := .later }
def GcdOwnCardSaid : Prop := Claim7.holds Tryd.pinned (.plain (OpenSpec.ofChange gcdOwnSpec)) gcdOwnCard

/-- THE TIED CARD OF 'straitlaw04.GcdRest'. -/
def gcdRestCard : Claim7 := { stood := { row := gcdRestRow, standIns := [], harness := (true, "75b607c22bd1d23b456fc3303f01c396ee862a8f9623435b2a2db2f61b0ba804"), looks := false }, kinds := [], alts := [], laidByText := true, laidKinds := [.data, .data], laidTests := true, laidLooks := .later }
def GcdRestCardSaid : Prop := Claim7.holds Tryd.pinned (.plain (OpenSpec.ofChange gcdRestSpec)) gcdRestCard

/-- THE SECOND FORM's CARD OF 'straitlaw04.GcdTells'. -/
def gcdTellsUptoCard : Claim7 := { stood := { row := gcdTellsUptoRow, standIns := [], harness := (true, "75b607c22bd1d23b456fc3303f01c396ee862a8f9623435b2a2db2f61b0ba804"), looks := false }, kinds := [], alts := [], laidByText := true, laidKinds := [.data, .data], laidTests := true, laidLooks := .later }
def GcdTellsUptoCardSaid : Prop := Claim7.holds Tryd.pinned (.plain (OpenSpec.upto gcdTellsSpec)) gcdTellsUptoCard

/-- THE SECOND FORM's CARD OF 'straitlaw04.GcdDivides'. -/
def gcdDividesUptoCard : Claim7 := { stood := { row := gcdDividesUptoRow, standIns := [], harness := (true, "75b607c22bd1d23b456fc3303f01c396ee862a8f9623435b2a2db2f61b0ba804"), looks := false }, kinds := [], alts := [], laidByText := true, laidKinds := [.data, .data], laidTests := true, laidLooks := .later }
def GcdDividesUptoCardSaid : Prop := Claim7.holds Tryd.pinned (.plain (OpenSpec.upto gcdDividesSpec)) gcdDividesUptoCard

/-- THE SECOND FORM's CARD OF 'straitlaw04.GcdReduces'. -/
def gcdReducesUptoCard : Claim7 := { stood := { row := gcdReducesUptoRow, standIns := [], harness := (true, "75b607c22bd1d23b456fc3303f01c396ee862a8f9623435b2a2db2f61b0ba804"), looks := false }, kinds := [], alts := [], laidByText := true, laidKinds := [.data, .data], laidTests := true, laidLooks := .later }
def GcdReducesUptoCardSaid : Prop := Claim7.holds Tryd.pinned (.plain (OpenSpec.upto gcdReducesSpec)) gcdReducesUptoCard

/-- THE SECOND FORM's CARD OF 'straitlaw04.GcdOwn'. -/
def gcdOwnUptoCard : Claim7 := { stood := { row := gcdOwnUptoRow, standIns := [], harness := (true, "75b607c22bd1d23b456fc3303f01c396ee862a8f9623435b2a2db2f61b0ba804"), looks := false }, kinds := [], alts := [], laidByText := true, laidKinds := [.data, .data], laidTests := true, laidLooks := .later }
def GcdOwnUptoCardSaid : Prop := Claim7.holds Tryd.pinned (.plain (OpenSpec.upto gcdOwnSpec)) gcdOwnUptoCard

/-- THE SECOND FORM's CARD OF 'straitlaw04.GcdRest'. -/
def gcdRestUptoCard : Claim7 := { stood := { row := gcdRestUptoRow, standIns := [], harness := (true, "75b607c22bd1d23b456fc3303f01c396ee862a8f9623435b2a2db2f61b0ba804"), looks := false }, kinds := [], alts := [], laidByText := true, laidKinds := [.data, .data], laidTests := true, laidLooks := .later }
def GcdRestUptoCardSaid : Prop := Claim7.holds Tryd.pinned (.plain (OpenSpec.upto gcdRestSpec)) gcdRestUptoCard
end Rows
end Go.Proofs.YtkijjcladecooaaDoor
