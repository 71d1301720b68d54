/-
  DERIVED. GIVEN WITH THE SEED: THE CARDS: each row of YteciokcdpadmpaaGreatDoorRows.lean that lists a variable, with what it lists TIED to the program's text (the seventh form; the later family's looks); each row that meets fmt, with fmt's text TOLD by the authors' own Lean function (tested against real Go, not proved from fmt's source: count such statements apart). THE CARD IS WHAT COUNTS. Prove the row's statement (the work); the ties are given (YteciokcdpadmpaaGreatDoorTie.lean); close each card by the builder's one call (the guide's Derived/Test/ToyasCard.lean, 'card_holds'). Laid BY PROGRAM, IN A SANDBOX (cutbox-door.mjs). By AI agents, Wed Nov 11 2026. No macro, syntax, notation, axiom, sorry.
-/
import Derived.Test.YteciokcdpadmpaaGreatDoorRows
import GoSem.ClaimSeven
namespace Go.Proofs.YteciokcdpadmpaaGreatDoor
namespace Rows

/-- THE TIED CARD OF 'pantrylaw.SolveRight'. -/
def solveRightCard : Claim7 := { stood := { row := solveRightRow, standIns := [], harness := (true, "a8a65a66f0efad3df3f1ed778ecfd2e713eaa4563662b9ed7d3146ec1cd5c47c"), looks := true }, kinds := [], alts := [], laidByText := true, laidKinds := [.data, .pinned], laidTests := true, laidLooks := .later }
def SolveRightCardSaid : Prop := Claim7.holds Tryz.pinned (.plain (OpenSpec.ofChange solveRightSpec)) solveRightCard

/-- THE SECOND FORM's CARD OF 'pantrylaw.SolveRight'. -/
def solveRightUptoCard : Claim7 := { stood := { row := solveRightUptoRow, standIns := [], harness := (true, "a8a65a66f0efad3df3f1ed778ecfd2e713eaa4563662b9ed7d3146ec1cd5c47c"), looks := true }, kinds := [], alts := [], laidByText := true, laidKinds := [.data, .pinned], laidTests := true, laidLooks := .later }
def SolveRightUptoCardSaid : Prop := Claim7.holds Tryz.pinned (.plain (OpenSpec.upto solveRightSpec)) solveRightUptoCard
end Rows
end Go.Proofs.YteciokcdpadmpaaGreatDoor
