/-
  DERIVED. GIVEN WITH THE SEED: THE CARDS: each row of YtolldhfcnbbelaaDoorRows.lean that lists a variable, with what it lists TIED to the program's text (the seventh form; the later family's looks); each row that meets fmt, with fmt's text TOLD by the authors' own Lean function (tested against real Go, not proved from fmt's source: count such statements apart). THE CARD IS WHAT COUNTS. Prove the row's statement (the work); the ties are given (YtolldhfcnbbelaaDoorTie.lean); close each card by the builder's one call (the guide's Derived/Test/ToyasCard.lean, 'card_holds'). Laid BY PROGRAM, IN A SANDBOX (cutbox-door.mjs). By AI agents, Wed Nov 11 2026. No macro, syntax, notation, axiom, sorry.
-/
import Derived.Test.YtolldhfcnbbelaaDoorRows
import GoSem.ClaimSeven
namespace Go.Proofs.YtolldhfcnbbelaaDoor
namespace Rows

/-- THE TIED CARD OF 'straitlaw05.SintLaws'. -/
def sintLawsCard : Claim7 := { stood := { row := sintLawsRow, standIns := [], harness := (true, "982c9481339c28919dd194bb1ddd36980f6cec23f7962fed440059046a9c5331"), looks := false }, kinds := [], alts := [], laidByText := true, laidKinds := [.data], laidTests := true, laidLooks := .later }
def SintLawsCardSaid : Prop := Claim7.holds Tryd.pinned (.plain (OpenSpec.ofChange sintLawsSpec)) sintLawsCard

/-- THE TIED CARD OF 'straitlaw05.SintFloor'. -/
def sintFloorCard : Claim7 := { stood := { row := sintFloorRow, standIns := [], harness := (true, "982c9481339c28919dd194bb1ddd36980f6cec23f7962fed440059046a9c5331"), looks := false }, kinds := [], alts := [], laidByText := true, laidKinds := [.data], laidTests := true, laidLooks := .later }
def SintFloorCardSaid : Prop := Claim7.holds Tryd.pinned (.plain (OpenSpec.ofChange sintFloorSpec)) sintFloorCard

/-- THE TIED CARD OF 'straitlaw05.SintOrder'. -/
def sintOrderCard : Claim7 := { stood := { row := sintOrderRow, standIns := [], harness := (true, "982c9481339c28919dd194bb1ddd36980f6cec23f7962fed440059046a9c5331"), looks := false }, kinds := [], alts := [], laidByText := true, laidKinds := [.data], laidTests := true, laidLooks := .later }
def SintOrderCardSaid : Prop := Claim7.holds Tryd.pinned (.plain (OpenSpec.ofChange sintOrderSpec)) sintOrderCard

/-- THE TIED CARD OF 'straitlaw05.SintSmall'. -/
def sintSmallCard : Claim7 := { stood := { row := sintSmallRow, standIns := [], harness := (true, "982c9481339c28919dd194bb1ddd36980f6cec23f7962fed440059046a9c5331"), looks := false }, kinds := [], alts := [], laidByText := true, laidKinds := [.data], laidTests := true, laidLooks := .later }
def SintSmallCardSaid : Prop := Claim7.holds Tryd.pinned (.plain (OpenSpec.ofChange sintSmallSpec)) sintSmallCard

/-- THE SECOND FORM's CARD OF 'straitlaw05.SintLaws'. -/
def sintLawsUptoCard : Claim7 := { stood := { row := sintLawsUptoRow, standIns := [], harness := (true, "982c9481339c28919dd194bb1ddd36980f6cec23f7962fed440059046a9c5331"), looks := false }, kinds := [], alts := [], laidByText := true, laidKinds := [.data], laidTests := true, laidLooks := .later }
def SintLawsUptoCardSaid : Prop := Claim7.holds Tryd.pinned (.plain (OpenSpec.upto sintLawsSpec)) sintLawsUptoCard

/-- THE SECOND FORM's CARD OF 'straitlaw05.SintFloor'. -/
def sintFloorUptoCard : Claim7 := { stood := { row := sintFloorUptoRow, standIns := [], harness := (true, "982c9481339c28919dd194bb1ddd36980f6cec23f7962fed440059046a9c5331"), looks := false }, kinds := [], alts := [], laidByText := true, laidKinds := [.data], laidTests := true, laidLooks := .later }
def SintFloorUptoCardSaid : Prop := Claim7.holds Tryd.pinned (.plain (OpenSpec.upto sintFloorSpec)) sintFloorUptoCard

/-- THE SECOND FORM's CARD OF 'straitlaw05.SintOrder'. -/
def sintOrderUptoCard : Claim7 := { stood := { row := sintOrderUptoRow, standIns := [], harness := (true, "982c9481339c28919dd194bb1ddd36980f6cec23f7962fed440059046a9c5331"), looks := false }, kinds := [], alts := [], laidByText := true, laidKinds := [.data], laidTests := true, laidLooks := .later }
def SintOrderUptoCardSaid : Prop := Claim7.holds Tryd.pinned (.plain (OpenSpec.upto sintOrderSpec)) sintOrderUptoCard

/-- THE SECOND FORM's CARD OF 'straitlaw05.SintSmall'. -/
def sintSmallUptoCard : Claim7 := { stood := { row := sintSmallUptoRow, standIns := [], harness := (true, "982c9481339c28919dd194bb1ddd36980f6cec23f7962fed440059046a9c5331"), looks := false }, kinds := [], alts := [], laidByText := true, laidKinds := [.data], laidTests := true, laidLooks := .later }
def SintSmallUptoCardSaid : Prop := Claim7.holds Tryd.pinned (.plain (OpenSpec.upto sintSmallSpec)) sintSmallUptoCard
end Rows
end Go.Proofs.YtolldhfcnbbelaaDoor
