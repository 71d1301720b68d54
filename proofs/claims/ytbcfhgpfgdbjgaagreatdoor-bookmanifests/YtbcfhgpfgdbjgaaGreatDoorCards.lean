/-
  DERIVED. GIVEN WITH THE SEED: THE CARDS: each row of YtbcfhgpfgdbjgaaGreatDoorRows.lean that lists a variable, with what it lists TIED to the program's text (the seventh form; the later family's looks); each row that meets fmt, with fmt's text TOLD by the authors' own Lean function (tested against real Go, not proved from fmt's source: count such statements apart). THE CARD IS WHAT COUNTS. Prove the row's statement (the work); the ties are given (YtbcfhgpfgdbjgaaGreatDoorTie.lean); close each card by the builder's one call (the guide's Derived/Test/ToyasCard.lean, 'card_holds'). Laid BY PROGRAM, IN A SANDBOX (cutbox-door.mjs). By AI agents, Wed Nov 11 2026. No macro, syntax, notation, axiom, sorry.
-/
import Derived.Test.YtbcfhgpfgdbjgaaGreatDoorRows
import GoSem.ClaimSeven
namespace Go.Proofs.YtbcfhgpfgdbjgaaGreatDoor
namespace Rows

/-- THE TIED CARD OF 'pantrylaw.BookManifests'. -/
def bookManifestsCard : Claim7 := { stood := { row := bookManifestsRow, standIns := [], harness := (true, "e57267be622789dee64b7cb664987a4bf8bd4a49d60679cb69ba069ce19f71ea"), looks := true }, kinds := [], alts := [], laidByText := true, laidKinds := [.data, .data, .data, .data, .handle, .sentinel, .sentinel, .sentinel, .sentinel, .sentinel, .sentinel, .sentinel, .pinned], laidTests := true, laidLooks := .later }
def BookManifestsCardSaid : Prop := Claim7.holds Tryz.pinned (.plain (OpenSpec.ofChange bookManifestsSpec)) bookManifestsCard

/-- THE SECOND FORM's CARD OF 'pantrylaw.BookManifests'. -/
def bookManifestsUptoCard : Claim7 := { stood := { row := bookManifestsUptoRow, standIns := [], harness := (true, "e57267be622789dee64b7cb664987a4bf8bd4a49d60679cb69ba069ce19f71ea"), looks := true }, kinds := [], alts := [], laidByText := true, laidKinds := [.data, .data, .data, .data, .handle, .sentinel, .sentinel, .sentinel, .sentinel, .sentinel, .sentinel, .sentinel, .pinned], laidTests := true, laidLooks := .later }
def BookManifestsUptoCardSaid : Prop := Claim7.holds Tryz.pinned (.plain (OpenSpec.upto bookManifestsSpec)) bookManifestsUptoCard
end Rows
end Go.Proofs.YtbcfhgpfgdbjgaaGreatDoor
