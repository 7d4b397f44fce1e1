/-
  DERIVED. GIVEN WITH THE SEED: THE CARDS: each row of YtolldhfcnbbelaaGreatDoorRows.lean that lists a variable, with what it lists TIED to the program's text (the seventh form; the later family's looks); each row that meets fmt, with fmt's text TOLD by the authors' own Lean function (tested against real Go, not proved from fmt's source: count such statements apart). THE CARD IS WHAT COUNTS. Prove the row's statement (the work); the ties are given (YtolldhfcnbbelaaGreatDoorTie.lean); close each card by the builder's one call (the guide's Derived/Test/ToyasCard.lean, 'card_holds'). Laid BY PROGRAM, IN A SANDBOX (cutbox-door.mjs). By AI agents, Wed Nov 11 2026. No macro, syntax, notation, axiom, sorry.
-/
import Derived.Test.YtolldhfcnbbelaaGreatDoorRows
import GoSem.ClaimSeven
namespace Go.Proofs.YtolldhfcnbbelaaGreatDoor
namespace Rows

/-- THE TIED CARD OF 'straitlaw05.SintTells'. -/
def sintTellsCard : Claim7 := { stood := { row := sintTellsRow, standIns := [], harness := (true, "8058ba9f68f7caef1a741e0d91968f2ad305aa392d4385d009480433160ae336"), looks := false }, kinds := [], alts := [], laidByText := true, laidKinds := [.data], laidTests := true, laidLooks := .later }
def SintTellsCardSaid : Prop := Claim7.holds Tryz.pinned (.plain (OpenSpec.ofChange sintTellsSpec)) sintTellsCard

/-- THE SECOND FORM's CARD OF 'straitlaw05.SintTells'. -/
def sintTellsUptoCard : Claim7 := { stood := { row := sintTellsUptoRow, standIns := [], harness := (true, "8058ba9f68f7caef1a741e0d91968f2ad305aa392d4385d009480433160ae336"), looks := false }, kinds := [], alts := [], laidByText := true, laidKinds := [.data], laidTests := true, laidLooks := .later }
def SintTellsUptoCardSaid : Prop := Claim7.holds Tryz.pinned (.plain (OpenSpec.upto sintTellsSpec)) sintTellsUptoCard
end Rows
end Go.Proofs.YtolldhfcnbbelaaGreatDoor
