/-
  DERIVED. GIVEN WITH THE SEED: THE CARDS: each row of YtnjegmdmigjmmacDoorRows.lean that lists a variable, with what it lists TIED to the program's text (the seventh form; the later family's looks); each row that meets fmt, with fmt's text TOLD by the authors' own Lean function (tested against real Go, not proved from fmt's source: count such statements apart). THE CARD IS WHAT COUNTS. Prove the row's statement (the work); the ties are given (YtnjegmdmigjmmacDoorTie.lean); close each card by the builder's one call (the guide's Derived/Test/ToyasCard.lean, 'card_holds'). Laid BY PROGRAM, IN A SANDBOX (cutbox-door.mjs). By AI agents, Wed Nov 11 2026. No macro, syntax, notation, axiom, sorry.
-/
import Derived.Test.YtnjegmdmigjmmacDoorRows
import GoSem.ClaimSeven
namespace Go.Proofs.YtnjegmdmigjmmacDoor
namespace Rows

/-- THE TIED CARD OF 'pantrylaw.VerNext'. -/
def verNextCard : Claim7 := { stood := { row := verNextRow, standIns := [], harness := (true, "f73bab2f3588f5aa5584d34f8fa4ba1a6965f5ca15631ec233779530f0eb23db"), looks := true }, kinds := [], alts := [], laidByText := true, laidKinds := [.data, .pinned], laidTests := true, laidLooks := .later }
def VerNextCardSaid : Prop := Claim7.holds Tryd.pinned (.plain (OpenSpec.ofChange verNextSpec)) verNextCard

/-- THE TIED CARD OF 'pantrylaw.VerLeast'. -/
def verLeastCard : Claim7 := { stood := { row := verLeastRow, standIns := [], harness := (true, "f73bab2f3588f5aa5584d34f8fa4ba1a6965f5ca15631ec233779530f0eb23db"), looks := true }, kinds := [], alts := [], laidByText := true, laidKinds := [.data, .pinned], laidTests := true, laidLooks := .later }
def VerLeastCardSaid : Prop := Claim7.holds Tryd.pinned (.plain (OpenSpec.ofChange verLeastSpec)) verLeastCard

/-- THE SECOND FORM's CARD OF 'pantrylaw.VerNext'. -/
def verNextUptoCard : Claim7 := { stood := { row := verNextUptoRow, standIns := [], harness := (true, "f73bab2f3588f5aa5584d34f8fa4ba1a6965f5ca15631ec233779530f0eb23db"), looks := true }, kinds := [], alts := [], laidByText := true, laidKinds := [.data, .pinned], laidTests := true, laidLooks := .later }
def VerNextUptoCardSaid : Prop := Claim7.holds Tryd.pinned (.plain (OpenSpec.upto verNextSpec)) verNextUptoCard

/-- THE SECOND FORM's CARD OF 'pantrylaw.VerLeast'. -/
def verLeastUptoCard : Claim7 := { stood := { row := verLeastUptoRow, standIns := [], harness := (true, "f73bab2f3588f5aa5584d34f8fa4ba1a6965f5ca15631ec233779530f0eb23db"), looks := true }, kinds := [], alts := [], laidByText := true, laidKinds := [.data, .pinned], laidTests := true, laidLooks := .later }
def VerLeastUptoCardSaid : Prop := Claim7.holds Tryd.pinned (.plain (OpenSpec.upto verLeastSpec)) verLeastUptoCard
end Rows
end Go.Proofs.YtnjegmdmigjmmacDoor
