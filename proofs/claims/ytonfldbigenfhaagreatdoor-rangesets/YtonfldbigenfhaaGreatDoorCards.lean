/-
  DERIVED. GIVEN WITH THE SEED: THE CARDS: each row of YtonfldbigenfhaaGreatDoorRows.lean that lists a variable, with what it lists TIED to the program's text (the seventh form; the later family's looks); each row that meets fmt, with fmt's text TOLD by the authors' own Lean function (tested against real Go, not proved from fmt's source: count such statements apart). THE CARD IS WHAT COUNTS. Prove the row's statement (the work); the ties are given (YtonfldbigenfhaaGreatDoorTie.lean); close each card by the builder's one call (the guide's Derived/Test/ToyasCard.lean, 'card_holds'). Laid BY PROGRAM, IN A SANDBOX (cutbox-door.mjs). By AI agents, Wed Nov 11 2026. No macro, syntax, notation, axiom, sorry.
-/
import Derived.Test.YtonfldbigenfhaaGreatDoorRows
import GoSem.ClaimSeven
namespace Go.Proofs.YtonfldbigenfhaaGreatDoor
namespace Rows

/-- THE TIED CARD OF 'pantrylaw.RangeParses'. -/
def rangeParsesCard : Claim7 := { stood := { row := rangeParsesRow, standIns := [], harness := (true, "c335763c6856b6d8d09c7f04919aec0109bba55d317fc0827c3ae8af5913e211"), looks := true }, kinds := [], alts := [], laidByText := true, laidKinds := [.data, .pinned], laidTests := true, laidLooks := .later }
def RangeParsesCardSaid : Prop := Claim7.holds Tryz.pinned (.plain (OpenSpec.ofChange rangeParsesSpec)) rangeParsesCard

/-- THE TIED CARD OF 'pantrylaw.RangeAdmits'. -/
def rangeAdmitsCard : Claim7 := { stood := { row := rangeAdmitsRow, standIns := [], harness := (true, "c335763c6856b6d8d09c7f04919aec0109bba55d317fc0827c3ae8af5913e211"), looks := true }, kinds := [], alts := [], laidByText := true, laidKinds := [.data, .pinned], laidTests := true, laidLooks := .later }
def RangeAdmitsCardSaid : Prop := Claim7.holds Tryz.pinned (.plain (OpenSpec.ofChange rangeAdmitsSpec)) rangeAdmitsCard

/-- THE TIED CARD OF 'pantrylaw.RangeMeans'. -/
def rangeMeansCard : Claim7 := { stood := { row := rangeMeansRow, standIns := [], harness := (true, "c335763c6856b6d8d09c7f04919aec0109bba55d317fc0827c3ae8af5913e211"), looks := true }, kinds := [], alts := [], laidByText := true, laidKinds := [.data, .pinned], laidTests := true, laidLooks := .later }
def RangeMeansCardSaid : Prop := Claim7.holds Tryz.pinned (.plain (OpenSpec.ofChange rangeMeansSpec)) rangeMeansCard

/-- THE TIED CARD OF 'pantrylaw.RangeBack'. -/
def rangeBackCard : Claim7 := { stood := { row := rangeBackRow, standIns := [], harness := (true, "c335763c6856b6d8d09c7f04919aec0109bba55d317fc0827c3ae8af5913e211"), looks := true }, kinds := [], alts := [], laidByText := true, laidKinds := [.data, .data, .data, .data, .pinned], laidTests := true, laidLooks := .later }
def RangeBackCardSaid : Prop := Claim7.holds Tryz.pinned (.plain (OpenSpec.ofChange rangeBackSpec)) rangeBackCard

/-- THE TIED CARD OF 'pantrylaw.RangeSets'. -/
def rangeSetsCard : Claim7 := { stood := { row := rangeSetsRow, standIns := [], harness := (true, "c335763c6856b6d8d09c7f04919aec0109bba55d317fc0827c3ae8af5913e211"), looks := true }, kinds := [], alts := [], laidByText := true, laidKinds := [.data, .pinned], laidTests := true, laidLooks := .later }
def RangeSetsCardSaid : Prop := Claim7.holds Tryz.pinned (.plain (OpenSpec.ofChange rangeSetsSpec)) rangeSetsCard

/-- THE TIED CARD OF 'pantrylaw.RangeCarets'. -/
def rangeCaretsCard : Claim7 := { stood := { row := rangeCaretsRow, standIns := [], harness := (true, "c335763c6856b6d8d09c7f04919aec0109bba55d317fc0827c3ae8af5913e211"), looks := true }, kinds := [], alts := [], laidByText := true, laidKinds := [.data, .pinned], laidTests := true, laidLooks := .later }
def RangeCaretsCardSaid : Prop := Claim7.holds Tryz.pinned (.plain (OpenSpec.ofChange rangeCaretsSpec)) rangeCaretsCard

/-- THE TIED CARD OF 'pantrylaw.RangeTildes'. -/
def rangeTildesCard : Claim7 := { stood := { row := rangeTildesRow, standIns := [], harness := (true, "c335763c6856b6d8d09c7f04919aec0109bba55d317fc0827c3ae8af5913e211"), looks := true }, kinds := [], alts := [], laidByText := true, laidKinds := [.data, .pinned], laidTests := true, laidLooks := .later }
def RangeTildesCardSaid : Prop := Claim7.holds Tryz.pinned (.plain (OpenSpec.ofChange rangeTildesSpec)) rangeTildesCard

/-- THE TIED CARD OF 'pantrylaw.RangeSides'. -/
def rangeSidesCard : Claim7 := { stood := { row := rangeSidesRow, standIns := [], harness := (true, "c335763c6856b6d8d09c7f04919aec0109bba55d317fc0827c3ae8af5913e211"), looks := true }, kinds := [], alts := [], laidByText := true, laidKinds := [.data, .pinned], laidTests := true, laidLooks := .later }
def RangeSidesCardSaid : Prop := Claim7.holds Tryz.pinned (.plain (OpenSpec.ofChange rangeSidesSpec)) rangeSidesCard

/-- THE SECOND FORM's CARD OF 'pantrylaw.RangeParses'. -/
def rangeParsesUptoCard : Claim7 := { stood := { row := rangeParsesUptoRow, standIns := [], harness := (true, "c335763c6856b6d8d09c7f04919aec0109bba55d317fc0827c3ae8af5913e211"), looks := true }, kinds := [], alts := [], laidByText := true, laidKinds := [.data, .pinned], laidTests := true, laidLooks := .later }
def RangeParsesUptoCardSaid : Prop := Claim7.holds Tryz.pinned (.plain (OpenSpec.upto rangeParsesSpec)) rangeParsesUptoCard

/-- THE SECOND FORM's CARD OF 'pantrylaw.RangeAdmits'. -/
def rangeAdmitsUptoCard : Claim7 := { stood := { row := rangeAdmitsUptoRow, standIns := [], harness := (true, "c335763c6856b6d8d09c7f04919aec0109bba55d317fc0827c3ae8af5913e211"), looks := true }, kinds := [], alts := [], laidByText := true, laidKinds := [.data, .pinned], laidTests := true, laidLooks := .later }
def RangeAdmitsUptoCardSaid : Prop := Claim7.holds Tryz.pinned (.plain (OpenSpec.upto rangeAdmitsSpec)) rangeAdmitsUptoCard

/-- THE SECOND FORM's CARD OF 'pantrylaw.RangeMeans'. -/
def rangeMeansUptoCard : Claim7 := { stood := { row := rangeMeansUptoRow, standIns := [], harness := (true, "c335763c6856b6d8d09c7f04919aec0109bba55d317fc0827c3ae8af5913e211"), looks := true }, kinds := [], alts := [], laidByText := true, laidKinds := [.data, .pinned], laidTests := true, laidLooks := .later }
def RangeMeansUptoCardSaid : Prop := Claim7.holds Tryz.pinned (.plain (OpenSpec.upto rangeMeansSpec)) rangeMeansUptoCard

/-- THE SECOND FORM's CARD OF 'pantrylaw.RangeBack'. -/
def rangeBackUptoCard : Claim7 := { stood := { row := rangeBackUptoRow, standIns := [], harness := (true, "c335763c6856b6d8d09c7f04919aec0109bba55d317fc0827c3ae8af5913e211"), looks := true }, kinds := [], alts := [], laidByText := true, laidKinds := [.data, .data, .data, .data, .pinned], laidTests := true, laidLooks := .later }
def RangeBackUptoCardSaid : Prop := Claim7.holds Tryz.pinned (.plain (OpenSpec.upto rangeBackSpec)) rangeBackUptoCard

/-- THE SECOND FORM's CARD OF 'pantrylaw.RangeSets'. -/
def rangeSetsUptoCard : Claim7 := { stood := { row := rangeSetsUptoRow, standIns := [], harness := (true, "c335763c6856b6d8d09c7f04919aec0109bba55d317fc0827c3ae8af5913e211"), looks := true }, kinds := [], alts := [], laidByText := true, laidKinds := [.data, .pinned], laidTests := true, laidLooks := .later }
def RangeSetsUptoCardSaid : Prop := Claim7.holds Tryz.pinned (.plain (OpenSpec.upto rangeSetsSpec)) rangeSetsUptoCard

/-- THE SECOND FORM's CARD OF 'pantrylaw.RangeCarets'. -/
def rangeCaretsUptoCard : Claim7 := { stood := { row := rangeCaretsUptoRow, standIns := [], harness := (true, "c335763c6856b6d8d09c7f04919aec0109bba55d317fc0827c3ae8af5913e211"), looks := true }, kinds := [], alts := [], laidByText := true, laidKinds := [.data, .pinned], laidTests := true, laidLooks := .later }
def RangeCaretsUptoCardSaid : Prop := Claim7.holds Tryz.pinned (.plain (OpenSpec.upto rangeCaretsSpec)) rangeCaretsUptoCard

/-- THE SECOND FORM's CARD OF 'pantrylaw.RangeTildes'. -/
def rangeTildesUptoCard : Claim7 := { stood := { row := rangeTildesUptoRow, standIns := [], harness := (true, "c335763c6856b6d8d09c7f04919aec0109bba55d317fc0827c3ae8af5913e211"), looks := true }, kinds := [], alts := [], laidByText := true, laidKinds := [.data, .pinned], laidTests := true, laidLooks := .later }
def RangeTildesUptoCardSaid : Prop := Claim7.holds Tryz.pinned (.plain (OpenSpec.upto rangeTildesSpec)) rangeTildesUptoCard

/-- THE SECOND FORM's CARD OF 'pantrylaw.RangeSides'. -/
def rangeSidesUptoCard : Claim7 := { stood := { row := rangeSidesUptoRow, standIns := [], harness := (true, "c335763c6856b6d8d09c7f04919aec0109bba55d317fc0827c3ae8af5913e211"), looks := true }, kinds := [], alts := [], laidByText := true, laidKinds := [.data, .pinned], laidTests := true, laidLooks := .later }
def RangeSidesUptoCardSaid : Prop := Claim7.holds Tryz.pinned (.plain (OpenSpec.upto rangeSidesSpec)) rangeSidesUptoCard
end Rows
end Go.Proofs.YtonfldbigenfhaaGreatDoor
