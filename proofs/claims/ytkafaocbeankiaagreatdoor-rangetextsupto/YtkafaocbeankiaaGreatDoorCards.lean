/-
  DERIVED. GIVEN WITH THE SEED: THE CARDS: each row of YtkafaocbeankiaaGreatDoorRows.lean that lists a variable, with what it lists TIED to the program's text (the seventh form; the later family's looks); each row that meets fmt, with fmt's text TOLD by the authors' own Lean function (tested against real Go, not proved from fmt's source: count such statements apart). THE CARD IS WHAT COUNTS. Prove the row's statement (the work); the ties are given (YtkafaocbeankiaaGreatDoorTie.lean); close each card by the builder's one call (the guide's Derived/Test/ToyasCard.lean, 'card_holds'). Laid BY PROGRAM, IN A SANDBOX (cutbox-door.mjs). By AI agents, Wed Nov 11 2026. No macro, syntax, notation, axiom, sorry.
-/
import Derived.Test.YtkafaocbeankiaaGreatDoorRows
import GoSem.ClaimSeven
namespace Go.Proofs.YtkafaocbeankiaaGreatDoor
namespace Rows

/-- THE TIED CARD OF 'pantrylaw.RangeTexts'. -/
def rangeTextsCard : Claim7 := { stood := { row := rangeTextsRow, standIns := [], harness := (true, "b7c1c5faa6b2bb12bcab3786c1f3f1ddb5f3ce14b7b8f0fa3c3ca5247ab03fb2"), looks := true }, kinds := [], alts := [], laidByText := true, laidKinds := [.data, .data, .data, .data, .pinned], laidTests := true, laidLooks := .later }
def RangeTextsCardSaid : Prop := Claim7.holds Tryz.pinned (.plain (OpenSpec.ofChange rangeTextsSpec)) rangeTextsCard

/-- THE SECOND FORM's CARD OF 'pantrylaw.RangeTexts'. -/
def rangeTextsUptoCard : Claim7 := { stood := { row := rangeTextsUptoRow, standIns := [], harness := (true, "b7c1c5faa6b2bb12bcab3786c1f3f1ddb5f3ce14b7b8f0fa3c3ca5247ab03fb2"), looks := true }, kinds := [], alts := [], laidByText := true, laidKinds := [.data, .data, .data, .data, .pinned], laidTests := true, laidLooks := .later }
def RangeTextsUptoCardSaid : Prop := Claim7.holds Tryz.pinned (.plain (OpenSpec.upto rangeTextsSpec)) rangeTextsUptoCard
end Rows
end Go.Proofs.YtkafaocbeankiaaGreatDoor
