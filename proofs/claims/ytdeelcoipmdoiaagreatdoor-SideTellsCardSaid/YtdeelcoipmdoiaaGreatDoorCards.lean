/-
  DERIVED. GIVEN WITH THE SEED: THE CARDS: each row of YtdeelcoipmdoiaaGreatDoorRows.lean that lists a variable, with what it lists TIED to the program's text (the seventh form; the later family's looks); each row that meets fmt, with fmt's text TOLD by the authors' own Lean function (tested against real Go, not proved from fmt's source: count such statements apart). THE CARD IS WHAT COUNTS. Prove the row's statement (the work); the ties are given (YtdeelcoipmdoiaaGreatDoorTie.lean); close each card by the builder's one call (the guide's Derived/Test/ToyasCard.lean, 'card_holds'). Laid BY PROGRAM, IN A SANDBOX (cutbox-door.mjs). By AI agents, Wed Nov 11 2026. No macro, syntax, notation, axiom, sorry.
-/
import Derived.Test.YtdeelcoipmdoiaaGreatDoorRows
import GoSem.ClaimSeven
namespace Go.Proofs.YtdeelcoipmdoiaaGreatDoor
namespace Rows

/-- THE TIED CARD OF 'straitlaw09.SideTells'. -/
def sideTellsCard : Claim7 := { stood := { row := sideTellsRow, standIns := [], harness := (true, "a2aa23487fc414320ce763d191ea18c3d13535148d4493815a7a82cbb03e42d1"), looks := false }, kinds := [], alts := [], laidByText := true, laidKinds := [.data, .data, .data], laidTests := true, laidLooks := .later }
def SideTellsCardSaid : Prop := Claim7.holds Tryz.pinned (.plain (OpenSpec.ofChange sideTellsSpec)) sideTellsCard

/-- THE TIED CARD OF 'straitlaw09.SideTurns'. -/
def sideTurnsCard : Claim7 := { stood := { row := sideTurnsRow, standIns := [], harness := (true, "a2aa23487fc414320ce763d191ea18c3d13535148d4493815a7a82cbb03e42d1"), looks := false }, kinds := [], alts := [], laidByText := true, laidKinds := [.data, .data, .data], laidTests := true, laidLooks := .later }
def SideTurnsCardSaid : Prop := Claim7.holds Tryz.pinned (.plain (OpenSpec.ofChange sideTurnsSpec)) sideTurnsCard

/-- THE TIED CARD OF 'straitlaw09.SideOn'. -/
def sideOnCard : Claim7 := { stood := { row := sideOnRow, standIns := [], harness := (true, "a2aa23487fc414320ce763d191ea18c3d13535148d4493815a7a82cbb03e42d1"), looks := false }, kinds := [], alts := [], laidByText := true, laidKinds := [.data, .data, .data], laidTests := true, laidLooks := .later }
def SideOnCardSaid : Prop := Claim7.holds Tryz.pinned (.plain (OpenSpec.ofChange sideOnSpec)) sideOnCard

/-- THE TIED CARD OF 'straitlaw09.SideAlong'. -/
def sideAlongCard : Claim7 := { stood := { row := sideAlongRow, standIns := [], harness := (true, "a2aa23487fc414320ce763d191ea18c3d13535148d4493815a7a82cbb03e42d1"), looks := false }, kinds := [], alts := [], laidByText := true, laidKinds := [.data, .data, .data], laidTests := true, laidLooks := .later }
def SideAlongCardSaid : Prop := Claim7.holds Tryz.pinned (.plain (OpenSpec.ofChange sideAlongSpec)) sideAlongCard

/-- THE SECOND FORM's CARD OF 'straitlaw09.SideTells'. -/
def sideTellsUptoCard : Claim7 := { stood := { row := sideTellsUptoRow, standIns := [], harness := (true, "a2aa23487fc414320ce763d191ea18c3d13535148d4493815a7a82cbb03e42d1"), looks := false }, kinds := [], alts := [], laidByText := true, laidKinds := [.data, .data, .data], laidTests := true, laidLooks := .later }
def SideTellsUptoCardSaid : Prop := Claim7.holds Tryz.pinned (.plain (OpenSpec.upto sideTellsSpec)) sideTellsUptoCard

/-- THE SECOND FORM's CARD OF 'straitlaw09.SideTurns'. -/
def sideTurnsUptoCard : Claim7 := { stood := { row := sideTurnsUptoRow, standIns := [], harness := (true, "a2aa23487fc414320ce763d191ea18c3d13535148d4493815a7a82cbb03e42d1"), looks := false }, kinds := [], alts := [], laidByText := true, laidKinds := [.data, .data, .data], laidTests := true, laidLooks := .later }
def SideTurnsUptoCardSaid : Prop := Claim7.holds Tryz.pinned (.plain (OpenSpec.upto sideTurnsSpec)) sideTurnsUptoCard

/-- THE SECOND FORM's CARD OF 'straitlaw09.SideOn'. -/
def sideOnUptoCard : Claim7 := { stood := { row := sideOnUptoRow, standIns := [], harness := (true, "a2aa23487fc414320ce763d191ea18c3d13535148d4493815a7a82cbb03e42d1"), looks := false }, kinds := [], alts := [], laidByText := true, laidKinds := [.data, .data, .data], laidTests := true, laidLooks := .later }
def SideOnUptoCardSaid : Prop := Claim7.holds Tryz.pinned (.plain (OpenSpec.upto sideOnSpec)) sideOnUptoCard

/-- THE SECOND FORM's CARD OF 'straitlaw09.SideAlong'. -/
def sideAlongUptoCard : Claim7 := { stood := { row := sideAlongUptoRow, standIns := [], harness := (true, "a2aa23487fc414320ce763d191ea18c3d13535148d4493815a7a82cbb03e42d1"), looks := false }, kinds := [], alts := [], laidByText := true, laidKinds := [.data, .data, .data], laidTests := true, laidLooks := .later }
def SideAlongUptoCardSaid : Prop := Claim7.holds Tryz.pinned (.plain (OpenSpec.upto sideAlongSpec)) sideAlongUptoCard
end Rows
end Go.Proofs.YtdeelcoipmdoiaaGreatDoor
