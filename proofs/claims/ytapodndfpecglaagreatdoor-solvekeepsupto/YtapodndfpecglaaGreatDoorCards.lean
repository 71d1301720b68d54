/-
  DERIVED. GIVEN WITH THE SEED: THE CARDS: each row of YtapodndfpecglaaGreatDoorRows.lean that lists a variable, with what it lists TIED to the program's text (the seventh form; the later family's looks); each row that meets fmt, with fmt's text TOLD by the authors' own Lean function (tested against real Go, not proved from fmt's source: count such statements apart). THE CARD IS WHAT COUNTS. Prove the row's statement (the work); the ties are given (YtapodndfpecglaaGreatDoorTie.lean); close each card by the builder's one call (the guide's Derived/Test/ToyasCard.lean, 'card_holds'). Laid BY PROGRAM, IN A SANDBOX (cutbox-door.mjs). By AI agents, Wed Nov 11 2026. No macro, syntax, notation, axiom, sorry.
-/
import Derived.Test.YtapodndfpecglaaGreatDoorRows
import GoSem.ClaimSeven
namespace Go.Proofs.YtapodndfpecglaaGreatDoor
namespace Rows

/-- THE TIED CARD OF 'pantrylaw.SolveKeeps'. -/
def solveKeepsCard : Claim7 := { stood := { row := solveKeepsRow, standIns := [], harness := (true, "cede451f3329e0777489d7a03eb76c11e912759fbde18905b030bb784f771106"), looks := true }, kinds := [], alts := [], laidByText := true, laidKinds := [.data, .pinned], laidTests := true, laidLooks := .later }
def SolveKeepsCardSaid : Prop := Claim7.holds Tryz.pinned (.plain (OpenSpec.ofChange solveKeepsSpec)) solveKeepsCard

/-- THE SECOND FORM's CARD OF 'pantrylaw.SolveKeeps'. -/
def solveKeepsUptoCard : Claim7 := { stood := { row := solveKeepsUptoRow, standIns := [], harness := (true, "cede451f3329e0777489d7a03eb76c11e912759fbde18905b030bb784f771106"), looks := true }, kinds := [], alts := [], laidByText := true, laidKinds := [.data, .pinned], laidTests := true, laidLooks := .later }
def SolveKeepsUptoCardSaid : Prop := Claim7.holds Tryz.pinned (.plain (OpenSpec.upto solveKeepsSpec)) solveKeepsUptoCard
end Rows
end Go.Proofs.YtapodndfpecglaaGreatDoor
