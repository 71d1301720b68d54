/-
  DERIVED. GIVEN WITH THE SEED: THE CARDS: each row of YticgahdffjnabaaGreatDoorRows.lean that lists a variable, with what it lists TIED to the program's text (the seventh form; the later family's looks); each row that meets fmt, with fmt's text TOLD by the authors' own Lean function (tested against real Go, not proved from fmt's source: count such statements apart). THE CARD IS WHAT COUNTS. Prove the row's statement (the work); the ties are given (YticgahdffjnabaaGreatDoorTie.lean); close each card by the builder's one call (the guide's Derived/Test/ToyasCard.lean, 'card_holds'). Laid BY PROGRAM, IN A SANDBOX (cutbox-door.mjs). By AI agents, Wed Nov 11 2026. No macro, syntax, notation, axiom, sorry.
-/
import Derived.Test.YticgahdffjnabaaGreatDoorRows
import GoSem.ClaimSeven
namespace Go.Proofs.YticgahdffjnabaaGreatDoor
namespace Rows

/-- THE TIED CARD OF 'pantrylaw.SolveGoods'. -/
def solveGoodsCard : Claim7 := { stood := { row := solveGoodsRow, standIns := [], harness := (true, "5b45b78df50dd8facf6dd547b38ea6235b7a558f29cf032d5203392515cf54f5"), looks := true }, kinds := [], alts := [], laidByText := true, laidKinds := [.data, .pinned], laidTests := true, laidLooks := .later }
def SolveGoodsCardSaid : Prop := Claim7.holds Tryz.pinned (.plain (OpenSpec.ofChange solveGoodsSpec)) solveGoodsCard

/-- THE SECOND FORM's CARD OF 'pantrylaw.SolveGoods'. -/
def solveGoodsUptoCard : Claim7 := { stood := { row := solveGoodsUptoRow, standIns := [], harness := (true, "5b45b78df50dd8facf6dd547b38ea6235b7a558f29cf032d5203392515cf54f5"), looks := true }, kinds := [], alts := [], laidByText := true, laidKinds := [.data, .pinned], laidTests := true, laidLooks := .later }
def SolveGoodsUptoCardSaid : Prop := Claim7.holds Tryz.pinned (.plain (OpenSpec.upto solveGoodsSpec)) solveGoodsUptoCard
end Rows
end Go.Proofs.YticgahdffjnabaaGreatDoor
