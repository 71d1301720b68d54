/-
  DERIVED. GIVEN WITH THE SEED: THE CARDS: each row of YtbgnflcebafjjaaGreatDoorRows.lean that lists a variable, with what it lists TIED to the program's text (the seventh form; the later family's looks); each row that meets fmt, with fmt's text TOLD by the authors' own Lean function (tested against real Go, not proved from fmt's source: count such statements apart). THE CARD IS WHAT COUNTS. Prove the row's statement (the work); the ties are given (YtbgnflcebafjjaaGreatDoorTie.lean); close each card by the builder's one call (the guide's Derived/Test/ToyasCard.lean, 'card_holds'). Laid BY PROGRAM, IN A SANDBOX (cutbox-door.mjs). By AI agents, Wed Nov 11 2026. No macro, syntax, notation, axiom, sorry.
-/
import Derived.Test.YtbgnflcebafjjaaGreatDoorRows
import GoSem.ClaimSeven
namespace Go.Proofs.YtbgnflcebafjjaaGreatDoor
namespace Rows

/-- THE TIED CARD OF 'pantrylaw.TomlParses'. -/
def tomlParsesCard : Claim7 := { stood := { row := tomlParsesRow, standIns := [], harness := (true, "4733d7f418101eb650f6e9bdf909d65a310513043ce47e74b2f0c2a21af8b4f6"), looks := true }, kinds := [], alts := [], laidByText := true, laidKinds := [.data, .data, .data, .data, .handle, .sentinel, .sentinel, .sentinel, .sentinel, .sentinel, .sentinel, .sentinel, .pinned], laidTests := true, laidLooks := .later }
def TomlParsesCardSaid : Prop := Claim7.holds Tryz.pinned (.plain (OpenSpec.ofChange tomlParsesSpec)) tomlParsesCard

/-- THE TIED CARD OF 'pantrylaw.TomlPrints'. -/
def tomlPrintsCard : Claim7 := { stood := { row := tomlPrintsRow, standIns := [], harness := (true, "4733d7f418101eb650f6e9bdf909d65a310513043ce47e74b2f0c2a21af8b4f6"), looks := true }, kinds := [], alts := [], laidByText := true, laidKinds := [.data, .data, .data, .data, .handle, .sentinel, .sentinel, .sentinel, .sentinel, .sentinel, .sentinel, .sentinel, .pinned], laidTests := true, laidLooks := .later }
def TomlPrintsCardSaid : Prop := Claim7.holds Tryz.pinned (.plain (OpenSpec.ofChange tomlPrintsSpec)) tomlPrintsCard

/-- THE TIED CARD OF 'pantrylaw.TomlAgain'. -/
def tomlAgainCard : Claim7 := { stood := { row := tomlAgainRow, standIns := [], harness := (true, "4733d7f418101eb650f6e9bdf909d65a310513043ce47e74b2f0c2a21af8b4f6"), looks := true }, kinds := [], alts := [], laidByText := true, laidKinds := [.data, .data, .data, .data, .handle, .sentinel, .sentinel, .sentinel, .sentinel, .sentinel, .sentinel, .sentinel, .pinned], laidTests := true, laidLooks := .later }
def TomlAgainCardSaid : Prop := Claim7.holds Tryz.pinned (.plain (OpenSpec.ofChange tomlAgainSpec)) tomlAgainCard

/-- THE TIED CARD OF 'pantrylaw.TomlRemarks'. -/
def tomlRemarksCard : Claim7 := { stood := { row := tomlRemarksRow, standIns := [], harness := (true, "4733d7f418101eb650f6e9bdf909d65a310513043ce47e74b2f0c2a21af8b4f6"), looks := true }, kinds := [], alts := [], laidByText := true, laidKinds := [.data, .data, .data, .data, .handle, .sentinel, .sentinel, .sentinel, .sentinel, .sentinel, .sentinel, .sentinel, .pinned], laidTests := true, laidLooks := .later }
def TomlRemarksCardSaid : Prop := Claim7.holds Tryz.pinned (.plain (OpenSpec.ofChange tomlRemarksSpec)) tomlRemarksCard

/-- THE SECOND FORM's CARD OF 'pantrylaw.TomlParses'. -/
def tomlParsesUptoCard : Claim7 := { stood := { row := tomlParsesUptoRow, standIns := [], harness := (true, "4733d7f418101eb650f6e9bdf909d65a310513043ce47e74b2f0c2a21af8b4f6"), looks := true }, kinds := [], alts := [], laidByText := true, laidKinds := [.data, .data, .data, .data, .handle, .sentinel, .sentinel, .sentinel, .sentinel, .sentinel, .sentinel, .sentinel, .pinned], laidTests := true, laidLooks := .later }
def TomlParsesUptoCardSaid : Prop := Claim7.holds Tryz.pinned (.plain (OpenSpec.upto tomlParsesSpec)) tomlParsesUptoCard

/-- THE SECOND FORM's CARD OF 'pantrylaw.TomlPrints'. -/
def tomlPrintsUptoCard : Claim7 := { stood := { row := tomlPrintsUptoRow, standIns := [], harness := (true, "4733d7f418101eb650f6e9bdf909d65a310513043ce47e74b2f0c2a21af8b4f6"), looks := true }, kinds := [], alts := [], laidByText := true, laidKinds := [.data, .data, .data, .data, .handle, .sentinel, .sentinel, .sentinel, .sentinel, .sentinel, .sentinel, .sentinel, .pinned], laidTests := true, laidLooks := .later }
def TomlPrintsUptoCardSaid : Prop := Claim7.holds Tryz.pinned (.plain (OpenSpec.upto tomlPrintsSpec)) tomlPrintsUptoCard

/-- THE SECOND FORM's CARD OF 'pantrylaw.TomlAgain'. -/
def tomlAgainUptoCard : Claim7 := { stood := { row := tomlAgainUptoRow, standIns := [], harness := (true, "4733d7f418101eb650f6e9bdf909d65a310513043ce47e74b2f0c2a21af8b4f6"), looks := true }, kinds := [], alts := [], laidByText := true, laidKinds := [.data, .data, .data, .data, .handle, .sentinel, .sentinel, .sentinel, .sentinel, .sentinel, .sentinel, .sentinel, .pinned], laidTests := true, laidLooks := .later }
def TomlAgainUptoCardSaid : Prop := Claim7.holds Tryz.pinned (.plain (OpenSpec.upto tomlAgainSpec)) tomlAgainUptoCard

/-- THE SECOND FORM's CARD OF 'pantrylaw.TomlRemarks'. -/
def tomlRemarksUptoCard : Claim7 := { stood := { row := tomlRemarksUptoRow, standIns := [], harness := (true, "4733d7f418101eb650f6e9bdf909d65a310513043ce47e74b2f0c2a21af8b4f6"), looks := true }, kinds := [], alts := [], laidByText := true, laidKinds := [.data, .data, .data, .data, .handle, .sentinel, .sentinel, .sentinel, .sentinel, .sentinel, .sentinel, .sentinel, .pinned], laidTests := true, laidLooks := .later }
def TomlRemarksUptoCardSaid : Prop := Claim7.holds Tryz.pinned (.plain (OpenSpec.upto tomlRemarksSpec)) tomlRemarksUptoCard
end Rows
end Go.Proofs.YtbgnflcebafjjaaGreatDoor
