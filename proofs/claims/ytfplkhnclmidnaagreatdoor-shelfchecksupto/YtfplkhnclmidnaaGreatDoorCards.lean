/-
  DERIVED. GIVEN WITH THE SEED: THE CARDS: each row of YtfplkhnclmidnaaGreatDoorRows.lean that lists a variable, with what it lists TIED to the program's text (the seventh form; the later family's looks); each row that meets fmt, with fmt's text TOLD by the authors' own Lean function (tested against real Go, not proved from fmt's source: count such statements apart). THE CARD IS WHAT COUNTS. Prove the row's statement (the work); the ties are given (YtfplkhnclmidnaaGreatDoorTie.lean); close each card by the builder's one call (the guide's Derived/Test/ToyasCard.lean, 'card_holds'). Laid BY PROGRAM, IN A SANDBOX (cutbox-door.mjs). By AI agents, Wed Nov 11 2026. No macro, syntax, notation, axiom, sorry.
-/
import Derived.Test.YtfplkhnclmidnaaGreatDoorRows
import GoSem.ClaimSeven
namespace Go.Proofs.YtfplkhnclmidnaaGreatDoor
namespace Rows

/-- THE TIED CARD OF 'pantrylaw.ShelfChecks'. -/
def shelfChecksCard : Claim7 := { stood := { row := shelfChecksRow, standIns := [], harness := (true, "1de8aac9af1943ab0ba8b23cf4e3eae2db6a8f64d55a94c3613362f4e39d61bb"), looks := true }, kinds := [], alts := [], laidByText := true, laidKinds := [.data, .pinned], laidTests := true, laidLooks := .later }
def ShelfChecksCardSaid : Prop := Claim7.holds Tryz.pinned (.plain (OpenSpec.ofChange shelfChecksSpec)) shelfChecksCard

/-- THE TIED CARD OF 'pantrylaw.SolveGoods'. -/
def solveGoodsCard : Claim7 := { stood := { row := solveGoodsRow, standIns := [], harness := (true, "1de8aac9af1943ab0ba8b23cf4e3eae2db6a8f64d55a94c3613362f4e39d61bb"), looks := true }, kinds := [], alts := [], laidByText := true, laidKinds := [.data, .pinned], laidTests := true, laidLooks := .later }
def SolveGoodsCardSaid : Prop := Claim7.holds Tryz.pinned (.plain (OpenSpec.ofChange solveGoodsSpec)) solveGoodsCard

/-- THE SECOND FORM's CARD OF 'pantrylaw.ShelfChecks'. -/
def shelfChecksUptoCard : Claim7 := { stood := { row := shelfChecksUptoRow, standIns := [], harness := (true, "1de8aac9af1943ab0ba8b23cf4e3eae2db6a8f64d55a94c3613362f4e39d61bb"), looks := true }, kinds := [], alts := [], laidByText := true, laidKinds := [.data, .pinned], laidTests := true, laidLooks := .later }
def ShelfChecksUptoCardSaid : Prop := Claim7.holds Tryz.pinned (.plain (OpenSpec.upto shelfChecksSpec)) shelfChecksUptoCard

/-- THE SECOND FORM's CARD OF 'pantrylaw.SolveGoods'. -/
def solveGoodsUptoCard : Claim7 := { stood := { row := solveGoodsUptoRow, standIns := [], harness := (true, "1de8aac9af1943ab0ba8b23cf4e3eae2db6a8f64d55a94c3613362f4e39d61bb"), looks := true }, kinds := [], alts := [], laidByText := true, laidKinds := [.data, .pinned], laidTests := true, laidLooks := .later }
def SolveGoodsUptoCardSaid : Prop := Claim7.holds Tryz.pinned (.plain (OpenSpec.upto solveGoodsSpec)) solveGoodsUptoCard
end Rows
end Go.Proofs.YtfplkhnclmidnaaGreatDoor
