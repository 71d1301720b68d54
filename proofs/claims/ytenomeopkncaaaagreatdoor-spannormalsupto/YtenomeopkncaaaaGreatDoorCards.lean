/-
  DERIVED. GIVEN WITH THE SEED: THE CARDS: each row of YtenomeopkncaaaaGreatDoorRows.lean that lists a variable, with what it lists TIED to the program's text (the seventh form; the later family's looks); each row that meets fmt, with fmt's text TOLD by the authors' own Lean function (tested against real Go, not proved from fmt's source: count such statements apart). THE CARD IS WHAT COUNTS. Prove the row's statement (the work); the ties are given (YtenomeopkncaaaaGreatDoorTie.lean); close each card by the builder's one call (the guide's Derived/Test/ToyasCard.lean, 'card_holds'). Laid BY PROGRAM, IN A SANDBOX (cutbox-door.mjs). By AI agents, Wed Nov 11 2026. No macro, syntax, notation, axiom, sorry.
-/
import Derived.Test.YtenomeopkncaaaaGreatDoorRows
import GoSem.ClaimSeven
namespace Go.Proofs.YtenomeopkncaaaaGreatDoor
namespace Rows

/-- THE TIED CARD OF 'pantrylaw.SpanNormals'. -/
def spanNormalsCard : Claim7 := { stood := { row := spanNormalsRow, standIns := [], harness := (true, "b51ebabc4da72dff752b5b0ac651ef92c3992cb91794de8237a9c8e762d32d40"), looks := true }, kinds := [], alts := [], laidByText := true, laidKinds := [.data, .pinned], laidTests := true, laidLooks := .later }
def SpanNormalsCardSaid : Prop := Claim7.holds Tryz.pinned (.plain (OpenSpec.ofChange spanNormalsSpec)) spanNormalsCard

/-- THE TIED CARD OF 'pantrylaw.SpanBoth'. -/
def spanBothCard : Claim7 := { stood := { row := spanBothRow, standIns := [], harness := (true, "b51ebabc4da72dff752b5b0ac651ef92c3992cb91794de8237a9c8e762d32d40"), looks := true }, kinds := [], alts := [], laidByText := true, laidKinds := [.data, .pinned], laidTests := true, laidLooks := .later }
def SpanBothCardSaid : Prop := Claim7.holds Tryz.pinned (.plain (OpenSpec.ofChange spanBothSpec)) spanBothCard

/-- THE SECOND FORM's CARD OF 'pantrylaw.SpanNormals'. -/
def spanNormalsUptoCard : Claim7 := { stood := { row := spanNormalsUptoRow, standIns := [], harness := (true, "b51ebabc4da72dff752b5b0ac651ef92c3992cb91794de8237a9c8e762d32d40"), looks := true }, kinds := [], alts := [], laidByText := true, laidKinds := [.data, .pinned], laidTests := true, laidLooks := .later }
def SpanNormalsUptoCardSaid : Prop := Claim7.holds Tryz.pinned (.plain (OpenSpec.upto spanNormalsSpec)) spanNormalsUptoCard

/-- THE SECOND FORM's CARD OF 'pantrylaw.SpanBoth'. -/
def spanBothUptoCard : Claim7 := { stood := { row := spanBothUptoRow, standIns := [], harness := (true, "b51ebabc4da72dff752b5b0ac651ef92c3992cb91794de8237a9c8e762d32d40"), looks := true }, kinds := [], alts := [], laidByText := true, laidKinds := [.data, .pinned], laidTests := true, laidLooks := .later }
def SpanBothUptoCardSaid : Prop := Claim7.holds Tryz.pinned (.plain (OpenSpec.upto spanBothSpec)) spanBothUptoCard
end Rows
end Go.Proofs.YtenomeopkncaaaaGreatDoor
