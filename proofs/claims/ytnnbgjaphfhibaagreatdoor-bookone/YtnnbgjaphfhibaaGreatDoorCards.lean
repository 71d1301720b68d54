/-
  DERIVED. GIVEN WITH THE SEED: THE CARDS: each row of YtnnbgjaphfhibaaGreatDoorRows.lean that lists a variable, with what it lists TIED to the program's text (the seventh form; the later family's looks); each row that meets fmt, with fmt's text TOLD by the authors' own Lean function (tested against real Go, not proved from fmt's source: count such statements apart). THE CARD IS WHAT COUNTS. Prove the row's statement (the work); the ties are given (YtnnbgjaphfhibaaGreatDoorTie.lean); close each card by the builder's one call (the guide's Derived/Test/ToyasCard.lean, 'card_holds'). Laid BY PROGRAM, IN A SANDBOX (cutbox-door.mjs). By AI agents, Wed Nov 11 2026. No macro, syntax, notation, axiom, sorry.
-/
import Derived.Test.YtnnbgjaphfhibaaGreatDoorRows
import GoSem.ClaimSeven
namespace Go.Proofs.YtnnbgjaphfhibaaGreatDoor
namespace Rows

/-- THE TIED CARD OF 'pantrylaw.BookLocks'. -/
def bookLocksCard : Claim7 := { stood := { row := bookLocksRow, standIns := [], harness := (true, "e1cc2ce15400078be842ecb0b7449b09c12212d82a382da0707026e48209bd1c"), looks := true }, kinds := [], alts := [], laidByText := true, laidKinds := [.data, .data, .data, .data, .handle, .sentinel, .sentinel, .sentinel, .sentinel, .sentinel, .sentinel, .sentinel, .pinned], laidTests := true, laidLooks := .later }
def BookLocksCardSaid : Prop := Claim7.holds Tryz.pinned (.plain (OpenSpec.ofChange bookLocksSpec)) bookLocksCard

/-- THE TIED CARD OF 'pantrylaw.BookOne'. -/
def bookOneCard : Claim7 := { stood := { row := bookOneRow, standIns := [], harness := (true, "e1cc2ce15400078be842ecb0b7449b09c12212d82a382da0707026e48209bd1c"), looks := true }, kinds := [], alts := [], laidByText := true, laidKinds := [.data, .data, .data, .data, .handle, .sentinel, .sentinel, .sentinel, .sentinel, .sentinel, .sentinel, .sentinel, .pinned], laidTests := true, laidLooks := .later }
def BookOneCardSaid : Prop := Claim7.holds Tryz.pinned (.plain (OpenSpec.ofChange bookOneSpec)) bookOneCard

/-- THE SECOND FORM's CARD OF 'pantrylaw.BookLocks'. -/
def bookLocksUptoCard : Claim7 := { stood := { row := bookLocksUptoRow, standIns := [], harness := (true, "e1cc2ce15400078be842ecb0b7449b09c12212d82a382da0707026e48209bd1c"), looks := true }, kinds := [], alts := [], laidByText := true, laidKinds := [.data, .data, .data, .data, .handle, .sentinel, .sentinel, .sentinel, .sentinel, .sentinel, .sentinel, .sentinel, .pinned], laidTests := true, laidLooks := .later }
def BookLocksUptoCardSaid : Prop := Claim7.holds Tryz.pinned (.plain (OpenSpec.upto bookLocksSpec)) bookLocksUptoCard

/-- THE SECOND FORM's CARD OF 'pantrylaw.BookOne'. -/
def bookOneUptoCard : Claim7 := { stood := { row := bookOneUptoRow, standIns := [], harness := (true, "e1cc2ce15400078be842ecb0b7449b09c12212d82a382da0707026e48209bd1c"), looks := true }, kinds := [], alts := [], laidByText := true, laidKinds := [.data, .data, .data, .data, .handle, .sentinel, .sentinel, .sentinel, .sentinel, .sentinel, .sentinel, .sentinel, .pinned], laidTests := true, laidLooks := .later }
def BookOneUptoCardSaid : Prop := Claim7.holds Tryz.pinned (.plain (OpenSpec.upto bookOneSpec)) bookOneUptoCard
end Rows
end Go.Proofs.YtnnbgjaphfhibaaGreatDoor
