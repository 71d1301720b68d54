/-
  DERIVED. GIVEN WITH THE SEED: THE CARDS: each row of YtiinliaoojfjaaaGreatDoorRows.lean that lists a variable, with what it lists TIED to the program's text (the seventh form; the later family's looks); each row that meets fmt, with fmt's text TOLD by the authors' own Lean function (tested against real Go, not proved from fmt's source: count such statements apart). THE CARD IS WHAT COUNTS. Prove the row's statement (the work); the ties are given (YtiinliaoojfjaaaGreatDoorTie.lean); close each card by the builder's one call (the guide's Derived/Test/ToyasCard.lean, 'card_holds'). Laid BY PROGRAM, IN A SANDBOX (cutbox-door.mjs). By AI agents, Wed Nov 11 2026. No macro, syntax, notation, axiom, sorry.
-/
import Derived.Test.YtiinliaoojfjaaaGreatDoorRows
import GoSem.ClaimSeven
namespace Go.Proofs.YtiinliaoojfjaaaGreatDoor
namespace Rows

/-- THE TIED CARD OF 'pantrylaw.SolveSolves'. -/
def solveSolvesCard : Claim7 := { stood := { row := solveSolvesRow, standIns := [], harness := (true, "487478da257a87f12de3b884f66522151e7a9b00601957a011d21a59306ed773"), looks := true }, kinds := [], alts := [], laidByText := true, laidKinds := [.data, .pinned], laidTests := true, laidLooks := .later }
def SolveSolvesCardSaid : Prop := Claim7.holds Tryz.pinned (.plain (OpenSpec.ofChange solveSolvesSpec)) solveSolvesCard

/-- THE TIED CARD OF 'pantrylaw.SolveNone'. -/
def solveNoneCard : Claim7 := { stood := { row := solveNoneRow, standIns := [], harness := (true, "487478da257a87f12de3b884f66522151e7a9b00601957a011d21a59306ed773"), looks := true }, kinds := [], alts := [], laidByText := true, laidKinds := [.data, .pinned], laidTests := true, laidLooks := .later }
def SolveNoneCardSaid : Prop := Claim7.holds Tryz.pinned (.plain (OpenSpec.ofChange solveNoneSpec)) solveNoneCard

/-- THE TIED CARD OF 'pantrylaw.SolveEnough'. -/
def solveEnoughCard : Claim7 := { stood := { row := solveEnoughRow, standIns := [], harness := (true, "487478da257a87f12de3b884f66522151e7a9b00601957a011d21a59306ed773"), looks := true }, kinds := [], alts := [], laidByText := true, laidKinds := [.data, .pinned], laidTests := true, laidLooks := .later }
def SolveEnoughCardSaid : Prop := Claim7.holds Tryz.pinned (.plain (OpenSpec.ofChange solveEnoughSpec)) solveEnoughCard

/-- THE TIED CARD OF 'pantrylaw.SolveOther'. -/
def solveOtherCard : Claim7 := { stood := { row := solveOtherRow, standIns := [], harness := (true, "487478da257a87f12de3b884f66522151e7a9b00601957a011d21a59306ed773"), looks := true }, kinds := [], alts := [], laidByText := true, laidKinds := [.data, .pinned], laidTests := true, laidLooks := .later }
def SolveOtherCardSaid : Prop := Claim7.holds Tryz.pinned (.plain (OpenSpec.ofChange solveOtherSpec)) solveOtherCard

/-- THE TIED CARD OF 'pantrylaw.SolveNewest'. -/
def solveNewestCard : Claim7 := { stood := { row := solveNewestRow, standIns := [], harness := (true, "487478da257a87f12de3b884f66522151e7a9b00601957a011d21a59306ed773"), looks := true }, kinds := [], alts := [], laidByText := true, laidKinds := [.data, .pinned], laidTests := true, laidLooks := .later }
def SolveNewestCardSaid : Prop := Claim7.holds Tryz.pinned (.plain (OpenSpec.ofChange solveNewestSpec)) solveNewestCard

/-- THE SECOND FORM's CARD OF 'pantrylaw.SolveSolves'. -/
def solveSolvesUptoCard : Claim7 := { stood := { row := solveSolvesUptoRow, standIns := [], harness := (true, "487478da257a87f12de3b884f66522151e7a9b00601957a011d21a59306ed773"), looks := true }, kinds := [], alts := [], laidByText := true, laidKinds := [.data, .pinned], laidTests := true, laidLooks := .later }
def SolveSolvesUptoCardSaid : Prop := Claim7.holds Tryz.pinned (.plain (OpenSpec.upto solveSolvesSpec)) solveSolvesUptoCard

/-- THE SECOND FORM's CARD OF 'pantrylaw.SolveNone'. -/
def solveNoneUptoCard : Claim7 := { stood := { row := solveNoneUptoRow, standIns := [], harness := (true, "487478da257a87f12de3b884f66522151e7a9b00601957a011d21a59306ed773"), looks := true }, kinds := [], alts := [], laidByText := true, laidKinds := [.data, .pinned], laidTests := true, laidLooks := .later }
def SolveNoneUptoCardSaid : Prop := Claim7.holds Tryz.pinned (.plain (OpenSpec.upto solveNoneSpec)) solveNoneUptoCard

/-- THE SECOND FORM's CARD OF 'pantrylaw.SolveEnough'. -/
def solveEnoughUptoCard : Claim7 := { stood := { row := solveEnoughUptoRow, standIns := [], harness := (true, "487478da257a87f12de3b884f66522151e7a9b00601957a011d21a59306ed773"), looks := true }, kinds := [], alts := [], laidByText := true, laidKinds := [.data, .pinned], laidTests := true, laidLooks := .later }
def SolveEnoughUptoCardSaid : Prop := Claim7.holds Tryz.pinned (.plain (OpenSpec.upto solveEnoughSpec)) solveEnoughUptoCard

/-- THE SECOND FORM's CARD OF 'pantrylaw.SolveOther'. -/
def solveOtherUptoCard : Claim7 := { stood := { row := solveOtherUptoRow, standIns := [], harness := (true, "487478da257a87f12de3b884f66522151e7a9b00601957a011d21a59306ed773"), looks := true }, kinds := [], alts := [], laidByText := true, laidKinds := [.data, .pinned], laidTests := true, laidLooks := .later }
def SolveOtherUptoCardSaid : Prop := Claim7.holds Tryz.pinned (.plain (OpenSpec.upto solveOtherSpec)) solveOtherUptoCard

/-- THE SECOND FORM's CARD OF 'pantrylaw.SolveNewest'. -/
def solveNewestUptoCard : Claim7 := { stood := { row := solveNewestUptoRow, standIns := [], harness := (true, "487478da257a87f12de3b884f66522151e7a9b00601957a011d21a59306ed773"), looks := true }, kinds := [], alts := [], laidByText := true, laidKinds := [.data, .pinned], laidTests := true, laidLooks := .later }
def SolveNewestUptoCardSaid : Prop := Claim7.holds Tryz.pinned (.plain (OpenSpec.upto solveNewestSpec)) solveNewestUptoCard
end Rows
end Go.Proofs.YtiinliaoojfjaaaGreatDoor
