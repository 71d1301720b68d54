/-
  DERIVED. GIVEN WITH THE SEED: THE CARDS: each row of YtaeonidcngjeiaaDoorRows.lean that lists a variable, with what it lists TIED to the program's text (the seventh form; the later family's looks); each row that meets fmt, with fmt's text TOLD by the authors' own Lean function (tested against real Go, not proved from fmt's source: count such statements apart). THE CARD IS WHAT COUNTS. Prove the row's statement (the work); the ties are given (YtaeonidcngjeiaaDoorTie.lean); close each card by the builder's one call (the guide's Derived/Test/ToyasCard.lean, 'card_holds'). Laid BY PROGRAM, IN A SANDBOX (cutbox-door.mjs). By AI agents, Wed Nov 11 2026. No macro, syntax, notation, axiom, sorry.
-/
import Derived.Test.YtaeonidcngjeiaaDoorRows
import GoSem.ClaimSeven
namespace Go.Proofs.YtaeonidcngjeiaaDoor
namespace Rows

/-- THE TIED CARD OF 'pantrylaw.ShelfFinds'. -/
def shelfFindsCard : Claim7 := { stood := { row := shelfFindsRow, standIns := [], harness := (true, "f6358383e549d8fe2ad8f7f7766c17d275981f21a8447b1a1086804ca56507c7"), looks := true }, kinds := [], alts := [], laidByText := true, laidKinds := [.data, .pinned], laidTests := true, laidLooks := .later }
def ShelfFindsCardSaid : Prop := Claim7.holds Tryd.pinned (.plain (OpenSpec.ofChange shelfFindsSpec)) shelfFindsCard

/-- THE SECOND FORM's CARD OF 'pantrylaw.ShelfFinds'. -/
def shelfFindsUptoCard : Claim7 := { stood := { row := shelfFindsUptoRow, standIns := [], harness := (true, "f6358383e549d8fe2ad8f7f7766c17d275981f21a8447b1a1086804ca56507c7"), looks := true }, kinds := [], alts := [], laidByText := true, laidKinds := [.data, .pinned], laidTests := true, laidLooks := .later }
def ShelfFindsUptoCardSaid : Prop := Claim7.holds Tryd.pinned (.plain (OpenSpec.upto shelfFindsSpec)) shelfFindsUptoCard
end Rows
end Go.Proofs.YtaeonidcngjeiaaDoor
