/-
  DERIVED. GIVEN WITH THE SEED: THE CARDS: each row of YtlfekpgoibgplaaDoorRows.lean that lists a variable, with what it lists TIED to the program's text (the seventh form; the later family's looks); each row that meets fmt, with fmt's text TOLD by the authors' own Lean function (tested against real Go, not proved from fmt's source: count such statements apart). THE CARD IS WHAT COUNTS. Prove the row's statement (the work); the ties are given (YtlfekpgoibgplaaDoorTie.lean); close each card by the builder's one call (the guide's Derived/Test/ToyasCard.lean, 'card_holds'). Laid BY PROGRAM, IN A SANDBOX (cutbox-door.mjs). By AI agents, Wed Nov 11 2026. No macro, syntax, notation, axiom, sorry.
-/
import Derived.Test.YtlfekpgoibgplaaDoorRows
import GoSem.ClaimSeven
namespace Go.Proofs.YtlfekpgoibgplaaDoor
namespace Rows

/-- THE TIED CARD OF 'pantrylaw.VerTexts'. -/
def verTextsCard : Claim7 := { stood := { row := verTextsRow, standIns := [], harness := (true, "f745bc92ab0d2f9925a1ef7162077350dc523423e1a2fad173730b5fb67d171b"), looks := true }, kinds := [], alts := [], laidByText := true, laidKinds := [.data, .data, .data], laidTests := true, laidLooks := .later }
def VerTextsCardSaid : Prop := Claim7.holds Tryd.pinned (.plain (OpenSpec.ofChange verTextsSpec)) verTextsCard

/-- THE TIED CARD OF 'pantrylaw.VerCompares'. -/
def verComparesCard : Claim7 := { stood := { row := verComparesRow, standIns := [], harness := (true, "f745bc92ab0d2f9925a1ef7162077350dc523423e1a2fad173730b5fb67d171b"), looks := true }, kinds := [], alts := [], laidByText := true, laidKinds := [.data, .pinned], laidTests := true, laidLooks := .later }
def VerComparesCardSaid : Prop := Claim7.holds Tryd.pinned (.plain (OpenSpec.ofChange verComparesSpec)) verComparesCard

/-- THE TIED CARD OF 'pantrylaw.VerBack'. -/
def verBackCard : Claim7 := { stood := { row := verBackRow, standIns := [], harness := (true, "f745bc92ab0d2f9925a1ef7162077350dc523423e1a2fad173730b5fb67d171b"), looks := true }, kinds := [], alts := [], laidByText := true, laidKinds := [.data, .data, .data], laidTests := true, laidLooks := .later }
def VerBackCardSaid : Prop := Claim7.holds Tryd.pinned (.plain (OpenSpec.ofChange verBackSpec)) verBackCard

/-- THE TIED CARD OF 'pantrylaw.VerOrder'. -/
def verOrderCard : Claim7 := { stood := { row := verOrderRow, standIns := [], harness := (true, "f745bc92ab0d2f9925a1ef7162077350dc523423e1a2fad173730b5fb67d171b"), looks := true }, kinds := [], alts := [], laidByText := true, laidKinds := [.data, .pinned], laidTests := true, laidLooks := .later }
def VerOrderCardSaid : Prop := Claim7.holds Tryd.pinned (.plain (OpenSpec.ofChange verOrderSpec)) verOrderCard

/-- THE TIED CARD OF 'pantrylaw.VerNext'. -/
def verNextCard : Claim7 := { stood := { row := verNextRow, standIns := [], harness := (true, "f745bc92ab0d2f9925a1ef7162077350dc523423e1a2fad173730b5fb67d171b"), looks := true }, kinds := [], alts := [], laidByText := true, laidKinds := [.data, .pinned], laidTests := true, laidLooks := .later }
def VerNextCardSaid : Prop := Claim7.holds Tryd.pinned (.plain (OpenSpec.ofChange verNextSpec)) verNextCard

/-- THE SECOND FORM's CARD OF 'pantrylaw.VerTexts'. -/
def verTextsUptoCard : Claim7 := { stood := { row := verTextsUptoRow, standIns := [], harness := (true, "f745bc92ab0d2f9925a1ef7162077350dc523423e1a2fad173730b5fb67d171b"), looks := true }, kinds := [], alts := [], laidByText := true, laidKinds := [.data, .data, .data], laidTests := true, laidLooks := .later }
def VerTextsUptoCardSaid : Prop := Claim7.holds Tryd.pinned (.plain (OpenSpec.upto verTextsSpec)) verTextsUptoCard

/-- THE SECOND FORM's CARD OF 'pantrylaw.VerCompares'. -/
def verComparesUptoCard : Claim7 := { stood := { row := verComparesUptoRow, standIns := [], harness := (true, "f745bc92ab0d2f9925a1ef7162077350dc523423e1a2fad173730b5fb67d171b"), looks := true }, kinds := [], alts := [], laidByText := true, laidKinds := [.data, .pinned], laidTests := true, laidLooks := .later }
def VerComparesUptoCardSaid : Prop := Claim7.holds Tryd.pinned (.plain (OpenSpec.upto verComparesSpec)) verComparesUptoCard

/-- THE SECOND FORM's CARD OF 'pantrylaw.VerBack'. -/
def verBackUptoCard : Claim7 := { stood := { row := verBackUptoRow, standIns := [], harness := (true, "f745bc92ab0d2f9925a1ef7162077350dc523423e1a2fad173730b5fb67d171b"), looks := true }, kinds := [], alts := [], laidByText := true, laidKinds := [.data, .data, .data], laidTests := true, laidLooks := .later }
def VerBackUptoCardSaid : Prop := Claim7.holds Tryd.pinned (.plain (OpenSpec.upto verBackSpec)) verBackUptoCard

/-- THE SECOND FORM's CARD OF 'pantrylaw.VerOrder'. -/
def verOrderUptoCard : Claim7 := { stood := { row := verOrderUptoRow, standIns := [], harness := (true, "f745bc92ab0d2f9925a1ef7162077350dc523423e1a2fad173730b5fb67d171b"), looks := true }, kinds := [], alts := [], laidByText := true, laidKinds := [.data, .pinned], laidTests := true, laidLooks := .later }
def VerOrderUptoCardSaid : Prop := Claim7.holds Tryd.pinned (.plain (OpenSpec.upto verOrderSpec)) verOrderUptoCard

/-- THE SECOND FORM's CARD OF 'pantrylaw.VerNext'. -/
def verNextUptoCard : Claim7 := { stood := { row := verNextUptoRow, standIns := [], harness := (true, "f745bc92ab0d2f9925a1ef7162077350dc523423e1a2fad173730b5fb67d171b"), looks := true }, kinds := [], alts := [], laidByText := true, laidKinds := [.data, .pinned], laidTests := true, laidLooks := .later }
def VerNextUptoCardSaid : Prop := Claim7.holds Tryd.pinned (.plain (OpenSpec.upto verNextSpec)) verNextUptoCard
end Rows
end Go.Proofs.YtlfekpgoibgplaaDoor
