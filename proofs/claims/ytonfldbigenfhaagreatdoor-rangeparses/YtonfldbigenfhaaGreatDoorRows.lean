/-
  NARROWER THAN 'FOR EVERY INPUT', by the rows' own cells (each row's printed sentence says how): RangeParses: laid · RangeAdmits: laid · RangeMeans: laid · RangeBack: laid · RangeSets: laid · RangeCarets: laid · RangeTildes: laid · RangeSides: laid.
  DERIVED. THE GIVEN ROWS OF THIS SEAT. 8 by the template 'for every input the law returns true; each argument reads behind the call as it read before'; 0 by the template 'total and deterministic' (their statements: YtonfldbigenfhaaGreatDoorTotals.lean).
  GIVEN WITH THE SEED: the statements are not yours to turn. If you find one false, say at which input.
  Laid BY PROGRAM, IN A SANDBOX (cutbox-rows.mjs): the forced cells as the released guide's own fill.sh prints them over the translation 839e2d587fb094c8… (all of the seat's roots in one cut). By AI agents, Wed Nov 11 2026. No macro, syntax, notation, axiom, sorry.
-/
import Derived.Test.YtonfldbigenfhaaGreatDoorChecked
import GoSem.PinnedTables
import GoSem.Claim
import GoSem.ClaimJoined
import GoSem.ClaimMapViews
import Derived.JoinedTies
import Derived.KernelRfl
namespace Go.Proofs.YtonfldbigenfhaaGreatDoor
/- THE CELL 'sum', in the pinned program and in every row, IS THE sha256 OF THE DUMP (.gsa) THAT YtonfldbigenfhaaGreatDoorProg.lean LOADS. Nothing in Lean hashes anything: it is a label: what it is worth is what the hold of that sum in a sandbox is worth. -/
noncomputable def Tryz.pinned : Pinned := { name := "ytonfldbigenfhaagreatdoor", sum := "839e2d587fb094c8d31802cce29bd385a5bbcbbd4be539ea507e45f13ce3fb1e", checked := Tryz.checked }
namespace Rows
def none {H : Type} : Left H := { results := [], args := [] }

/- WHAT THE LISTED PACKAGE-LEVEL VARIABLES READ AS WHEN THE CALL BEGINS. Each datum BY PROGRAM (the guide's laid-datum.mjs) off the statement by which the dump's own 'gosem.cut.vars' lays the variable. In a bare row this is a premise. The card (YtonfldbigenfhaaGreatDoorCards.lean) ties it to the program's text. -/
def laid_unicode_utf8_acceptRanges {H : Type} : DataW H := .agg [.agg [.lit (.int .u8 128), .lit (.int .u8 191)], .agg [.lit (.int .u8 160), .lit (.int .u8 191)], .agg [.lit (.int .u8 128), .lit (.int .u8 159)], .agg [.lit (.int .u8 144), .lit (.int .u8 191)], .agg [.lit (.int .u8 128), .lit (.int .u8 143)], .agg [.lit (.int .u8 0), .lit (.int .u8 0)], .agg [.lit (.int .u8 0), .lit (.int .u8 0)], .agg [.lit (.int .u8 0), .lit (.int .u8 0)], .agg [.lit (.int .u8 0), .lit (.int .u8 0)], .agg [.lit (.int .u8 0), .lit (.int .u8 0)], .agg [.lit (.int .u8 0), .lit (.int .u8 0)], .agg [.lit (.int .u8 0), .lit (.int .u8 0)], .agg [.lit (.int .u8 0), .lit (.int .u8 0)], .agg [.lit (.int .u8 0), .lit (.int .u8 0)], .agg [.lit (.int .u8 0), .lit (.int .u8 0)], .agg [.lit (.int .u8 0), .lit (.int .u8 0)]]
/-- One of Go's own tables, pinned by name: the form's constant. -/
def laid_unicode_utf8_first : DataW Unit := Go.Pinned.utf8First
def laid_math_bits_deBruijn32tab {H : Type} : DataW H := .agg [.lit (.int .u8 0), .lit (.int .u8 1), .lit (.int .u8 28), .lit (.int .u8 2), .lit (.int .u8 29), .lit (.int .u8 14), .lit (.int .u8 24), .lit (.int .u8 3), .lit (.int .u8 30), .lit (.int .u8 22), .lit (.int .u8 20), .lit (.int .u8 15), .lit (.int .u8 25), .lit (.int .u8 17), .lit (.int .u8 4), .lit (.int .u8 8), .lit (.int .u8 31), .lit (.int .u8 27), .lit (.int .u8 13), .lit (.int .u8 23), .lit (.int .u8 21), .lit (.int .u8 19), .lit (.int .u8 16), .lit (.int .u8 7), .lit (.int .u8 26), .lit (.int .u8 12), .lit (.int .u8 18), .lit (.int .u8 6), .lit (.int .u8 11), .lit (.int .u8 5), .lit (.int .u8 10), .lit (.int .u8 9)]
def laid_math_bits_deBruijn64tab {H : Type} : DataW H := .agg [.lit (.int .u8 0), .lit (.int .u8 1), .lit (.int .u8 56), .lit (.int .u8 2), .lit (.int .u8 57), .lit (.int .u8 49), .lit (.int .u8 28), .lit (.int .u8 3), .lit (.int .u8 61), .lit (.int .u8 58), .lit (.int .u8 42), .lit (.int .u8 50), .lit (.int .u8 38), .lit (.int .u8 29), .lit (.int .u8 17), .lit (.int .u8 4), .lit (.int .u8 62), .lit (.int .u8 47), .lit (.int .u8 59), .lit (.int .u8 36), .lit (.int .u8 45), .lit (.int .u8 43), .lit (.int .u8 51), .lit (.int .u8 22), .lit (.int .u8 53), .lit (.int .u8 39), .lit (.int .u8 33), .lit (.int .u8 30), .lit (.int .u8 24), .lit (.int .u8 18), .lit (.int .u8 12), .lit (.int .u8 5), .lit (.int .u8 63), .lit (.int .u8 55), .lit (.int .u8 48), .lit (.int .u8 27), .lit (.int .u8 60), .lit (.int .u8 41), .lit (.int .u8 37), .lit (.int .u8 16), .lit (.int .u8 46), .lit (.int .u8 35), .lit (.int .u8 44), .lit (.int .u8 21), .lit (.int .u8 52), .lit (.int .u8 32), .lit (.int .u8 23), .lit (.int .u8 11), .lit (.int .u8 54), .lit (.int .u8 26), .lit (.int .u8 40), .lit (.int .u8 15), .lit (.int .u8 34), .lit (.int .u8 20), .lit (.int .u8 31), .lit (.int .u8 10), .lit (.int .u8 25), .lit (.int .u8 14), .lit (.int .u8 19), .lit (.int .u8 9), .lit (.int .u8 13), .lit (.int .u8 8), .lit (.int .u8 7), .lit (.int .u8 6)]
def laid_internal_strconv_uint64pow10 {H : Type} : DataW H := .agg [.lit (.int .u64 1), .lit (.int .u64 10), .lit (.int .u64 100), .lit (.int .u64 1000), .lit (.int .u64 10000), .lit (.int .u64 100000), .lit (.int .u64 1000000), .lit (.int .u64 10000000), .lit (.int .u64 100000000), .lit (.int .u64 1000000000), .lit (.int .u64 10000000000), .lit (.int .u64 100000000000), .lit (.int .u64 1000000000000), .lit (.int .u64 10000000000000), .lit (.int .u64 100000000000000), .lit (.int .u64 1000000000000000), .lit (.int .u64 10000000000000000), .lit (.int .u64 100000000000000000), .lit (.int .u64 1000000000000000000), .lit (.int .u64 10000000000000000000)]

/-- 'pantrylaw.RangeParses': WHATEVER THE INPUT: true; the input reads as it did. -/
def rangeParsesSpec : ChangeSpec := { name := "rangeParses", fn := fun _ => fun
  | [d] => { results := [.lit (.bool true)], args := [d] }
  | _ => none }
def rangeParsesRow : OpenClaim := { program := "ytonfldbigenfhaagreatdoor", sum := "839e2d587fb094c8d31802cce29bd385a5bbcbbd4be539ea507e45f13ce3fb1e", func := "pantry/pantrylaw.RangeParses", spec := "rangeParses", inPlace := ["internal/bytealg.IndexByteString", "internal/bytealg.IndexString"], unfollowed := true, recurses := true, named := ["internal/bytealg.MaxLen", "unicode/utf8.first", "unicode/utf8.acceptRanges"], apart := false, laid := [("unicode/utf8.acceptRanges", laid_unicode_utf8_acceptRanges), ("unicode/utf8.first", laid_unicode_utf8_first)] }
def RangeParsesSaid : Prop := rangeParsesRow.holds Tryz.pinned (OpenSpec.ofChange rangeParsesSpec)

/-- ITS FALSE NEIGHBOUR: 'it returns false'. Refute it at one input. -/
def rangeParsesWrong : ChangeSpec := { name := "rangeParses", fn := fun _ => fun
  | [d] => { results := [.lit (.bool false)], args := [d] }
  | _ => none }
def RangeParsesWrongFalsely : Prop := rangeParsesRow.holds Tryz.pinned (OpenSpec.ofChange rangeParsesWrong)

/-- 'pantrylaw.RangeAdmits': WHATEVER THE INPUT: true; the input reads as it did. -/
def rangeAdmitsSpec : ChangeSpec := { name := "rangeAdmits", fn := fun _ => fun
  | [d1, d2] => { results := [.lit (.bool true)], args := [d1, d2] }
  | _ => none }
def rangeAdmitsRow : OpenClaim := { program := "ytonfldbigenfhaagreatdoor", sum := "839e2d587fb094c8d31802cce29bd385a5bbcbbd4be539ea507e45f13ce3fb1e", func := "pantry/pantrylaw.RangeAdmits", spec := "rangeAdmits", inPlace := ["internal/bytealg.IndexByteString", "internal/bytealg.IndexString"], unfollowed := true, recurses := true, named := ["internal/bytealg.MaxLen", "unicode/utf8.first", "unicode/utf8.acceptRanges"], apart := false, laid := [("unicode/utf8.acceptRanges", laid_unicode_utf8_acceptRanges), ("unicode/utf8.first", laid_unicode_utf8_first)] }
def RangeAdmitsSaid : Prop := rangeAdmitsRow.holds Tryz.pinned (OpenSpec.ofChange rangeAdmitsSpec)

/-- ITS FALSE NEIGHBOUR: 'it returns false'. Refute it at one input. -/
def rangeAdmitsWrong : ChangeSpec := { name := "rangeAdmits", fn := fun _ => fun
  | [d1, d2] => { results := [.lit (.bool false)], args := [d1, d2] }
  | _ => none }
def RangeAdmitsWrongFalsely : Prop := rangeAdmitsRow.holds Tryz.pinned (OpenSpec.ofChange rangeAdmitsWrong)

/-- 'pantrylaw.RangeMeans': WHATEVER THE INPUT: true; the input reads as it did. -/
def rangeMeansSpec : ChangeSpec := { name := "rangeMeans", fn := fun _ => fun
  | [d1, d2] => { results := [.lit (.bool true)], args := [d1, d2] }
  | _ => none }
def rangeMeansRow : OpenClaim := { program := "ytonfldbigenfhaagreatdoor", sum := "839e2d587fb094c8d31802cce29bd385a5bbcbbd4be539ea507e45f13ce3fb1e", func := "pantry/pantrylaw.RangeMeans", spec := "rangeMeans", inPlace := ["internal/bytealg.IndexByteString", "internal/bytealg.IndexString"], unfollowed := true, recurses := true, named := ["internal/bytealg.MaxLen", "unicode/utf8.first", "unicode/utf8.acceptRanges"], apart := false, laid := [("unicode/utf8.acceptRanges", laid_unicode_utf8_acceptRanges), ("unicode/utf8.first", laid_unicode_utf8_first)] }
def RangeMeansSaid : Prop := rangeMeansRow.holds Tryz.pinned (OpenSpec.ofChange rangeMeansSpec)

/-- ITS FALSE NEIGHBOUR: 'it returns false'. Refute it at one input. -/
def rangeMeansWrong : ChangeSpec := { name := "rangeMeans", fn := fun _ => fun
  | [d1, d2] => { results := [.lit (.bool false)], args := [d1, d2] }
  | _ => none }
def RangeMeansWrongFalsely : Prop := rangeMeansRow.holds Tryz.pinned (OpenSpec.ofChange rangeMeansWrong)

/-- 'pantrylaw.RangeBack': WHATEVER THE INPUT: true; the input reads as it did. -/
def rangeBackSpec : ChangeSpec := { name := "rangeBack", fn := fun _ => fun
  | [d] => { results := [.lit (.bool true)], args := [d] }
  | _ => none }
def rangeBackRow : OpenClaim := { program := "ytonfldbigenfhaagreatdoor", sum := "839e2d587fb094c8d31802cce29bd385a5bbcbbd4be539ea507e45f13ce3fb1e", func := "pantry/pantrylaw.RangeBack", spec := "rangeBack", inPlace := ["internal/bytealg.IndexByteString", "internal/bytealg.IndexString", "internal/abi.NoEscape", "internal/bytealg.MakeNoZero"], unfollowed := true, recurses := true, named := ["internal/bytealg.MaxLen", "unicode/utf8.first", "unicode/utf8.acceptRanges", "internal/strconv.uint64pow10", "math/bits.deBruijn32tab", "math/bits.deBruijn64tab"], apart := false, laid := [("math/bits.deBruijn32tab", laid_math_bits_deBruijn32tab), ("math/bits.deBruijn64tab", laid_math_bits_deBruijn64tab), ("internal/strconv.uint64pow10", laid_internal_strconv_uint64pow10), ("unicode/utf8.acceptRanges", laid_unicode_utf8_acceptRanges), ("unicode/utf8.first", laid_unicode_utf8_first)] }
def RangeBackSaid : Prop := rangeBackRow.holds Tryz.pinned (OpenSpec.ofChange rangeBackSpec)

/-- ITS FALSE NEIGHBOUR: 'it returns false'. Refute it at one input. -/
def rangeBackWrong : ChangeSpec := { name := "rangeBack", fn := fun _ => fun
  | [d] => { results := [.lit (.bool false)], args := [d] }
  | _ => none }
def RangeBackWrongFalsely : Prop := rangeBackRow.holds Tryz.pinned (OpenSpec.ofChange rangeBackWrong)

/-- 'pantrylaw.RangeSets': WHATEVER THE INPUT: true; the input reads as it did. -/
def rangeSetsSpec : ChangeSpec := { name := "rangeSets", fn := fun _ => fun
  | [d1, d2] => { results := [.lit (.bool true)], args := [d1, d2] }
  | _ => none }
def rangeSetsRow : OpenClaim := { program := "ytonfldbigenfhaagreatdoor", sum := "839e2d587fb094c8d31802cce29bd385a5bbcbbd4be539ea507e45f13ce3fb1e", func := "pantry/pantrylaw.RangeSets", spec := "rangeSets", inPlace := ["internal/bytealg.IndexByteString", "internal/bytealg.IndexString"], unfollowed := true, recurses := true, named := ["internal/bytealg.MaxLen", "unicode/utf8.first", "unicode/utf8.acceptRanges"], apart := false, laid := [("unicode/utf8.acceptRanges", laid_unicode_utf8_acceptRanges), ("unicode/utf8.first", laid_unicode_utf8_first)] }
def RangeSetsSaid : Prop := rangeSetsRow.holds Tryz.pinned (OpenSpec.ofChange rangeSetsSpec)

/-- ITS FALSE NEIGHBOUR: 'it returns false'. Refute it at one input. -/
def rangeSetsWrong : ChangeSpec := { name := "rangeSets", fn := fun _ => fun
  | [d1, d2] => { results := [.lit (.bool false)], args := [d1, d2] }
  | _ => none }
def RangeSetsWrongFalsely : Prop := rangeSetsRow.holds Tryz.pinned (OpenSpec.ofChange rangeSetsWrong)

/-- 'pantrylaw.RangeCarets': WHATEVER THE INPUT: true; the input reads as it did. -/
def rangeCaretsSpec : ChangeSpec := { name := "rangeCarets", fn := fun _ => fun
  | [d1, d2, d3] => { results := [.lit (.bool true)], args := [d1, d2, d3] }
  | _ => none }
def rangeCaretsRow : OpenClaim := { program := "ytonfldbigenfhaagreatdoor", sum := "839e2d587fb094c8d31802cce29bd385a5bbcbbd4be539ea507e45f13ce3fb1e", func := "pantry/pantrylaw.RangeCarets", spec := "rangeCarets", inPlace := ["internal/bytealg.IndexByteString", "internal/bytealg.IndexString"], unfollowed := true, recurses := true, named := ["internal/bytealg.MaxLen", "unicode/utf8.first", "unicode/utf8.acceptRanges"], apart := false, laid := [("unicode/utf8.acceptRanges", laid_unicode_utf8_acceptRanges), ("unicode/utf8.first", laid_unicode_utf8_first)] }
def RangeCaretsSaid : Prop := rangeCaretsRow.holds Tryz.pinned (OpenSpec.ofChange rangeCaretsSpec)

/-- ITS FALSE NEIGHBOUR: 'it returns false'. Refute it at one input. -/
def rangeCaretsWrong : ChangeSpec := { name := "rangeCarets", fn := fun _ => fun
  | [d1, d2, d3] => { results := [.lit (.bool false)], args := [d1, d2, d3] }
  | _ => none }
def RangeCaretsWrongFalsely : Prop := rangeCaretsRow.holds Tryz.pinned (OpenSpec.ofChange rangeCaretsWrong)

/-- 'pantrylaw.RangeTildes': WHATEVER THE INPUT: true; the input reads as it did. -/
def rangeTildesSpec : ChangeSpec := { name := "rangeTildes", fn := fun _ => fun
  | [d1, d2, d3] => { results := [.lit (.bool true)], args := [d1, d2, d3] }
  | _ => none }
def rangeTildesRow : OpenClaim := { program := "ytonfldbigenfhaagreatdoor", sum := "839e2d587fb094c8d31802cce29bd385a5bbcbbd4be539ea507e45f13ce3fb1e", func := "pantry/pantrylaw.RangeTildes", spec := "rangeTildes", inPlace := ["internal/bytealg.IndexByteString", "internal/bytealg.IndexString"], unfollowed := true, recurses := true, named := ["internal/bytealg.MaxLen", "unicode/utf8.first", "unicode/utf8.acceptRanges"], apart := false, laid := [("unicode/utf8.acceptRanges", laid_unicode_utf8_acceptRanges), ("unicode/utf8.first", laid_unicode_utf8_first)] }
def RangeTildesSaid : Prop := rangeTildesRow.holds Tryz.pinned (OpenSpec.ofChange rangeTildesSpec)

/-- ITS FALSE NEIGHBOUR: 'it returns false'. Refute it at one input. -/
def rangeTildesWrong : ChangeSpec := { name := "rangeTildes", fn := fun _ => fun
  | [d1, d2, d3] => { results := [.lit (.bool false)], args := [d1, d2, d3] }
  | _ => none }
def RangeTildesWrongFalsely : Prop := rangeTildesRow.holds Tryz.pinned (OpenSpec.ofChange rangeTildesWrong)

/-- 'pantrylaw.RangeSides': WHATEVER THE INPUT: true; the input reads as it did. -/
def rangeSidesSpec : ChangeSpec := { name := "rangeSides", fn := fun _ => fun
  | [d1, d2] => { results := [.lit (.bool true)], args := [d1, d2] }
  | _ => none }
def rangeSidesRow : OpenClaim := { program := "ytonfldbigenfhaagreatdoor", sum := "839e2d587fb094c8d31802cce29bd385a5bbcbbd4be539ea507e45f13ce3fb1e", func := "pantry/pantrylaw.RangeSides", spec := "rangeSides", inPlace := ["internal/bytealg.IndexByteString", "internal/bytealg.IndexString"], unfollowed := true, recurses := true, named := ["internal/bytealg.MaxLen", "unicode/utf8.first", "unicode/utf8.acceptRanges"], apart := false, laid := [("unicode/utf8.acceptRanges", laid_unicode_utf8_acceptRanges), ("unicode/utf8.first", laid_unicode_utf8_first)] }
def RangeSidesSaid : Prop := rangeSidesRow.holds Tryz.pinned (OpenSpec.ofChange rangeSidesSpec)

/-- ITS FALSE NEIGHBOUR: 'it returns false'. Refute it at one input. -/
def rangeSidesWrong : ChangeSpec := { name := "rangeSides", fn := fun _ => fun
  | [d1, d2] => { results := [.lit (.bool false)], args := [d1, d2] }
  | _ => none }
def RangeSidesWrongFalsely : Prop := rangeSidesRow.holds Tryz.pinned (OpenSpec.ofChange rangeSidesWrong)

/- THE SECOND FORM. 'bulk': how many values and letters a reading holds, each counted each time it is reached (what is shared counts as often as it is met; a slice's spare places count too). A statement '..UptoSaid' is the law's where the arguments, and the package variables that the reading takes, are together of bulk at most 1048576: NARROWER than '..Said'. Prove '..Said' where nothing that the law and all that it calls make is longer than what came in: it says more and counts as full. Else prove '..UptoSaid'. A law counts once. -/
mutual
def uptoBulk {H : Type} : DataW H → Nat
  | .lit (.string bytes) => bytes.length + 1
  | .lit _ => 1
  | .nil => 1
  | .ptr d => uptoBulk d + 1
  | .slice elems spare => uptoBulkAll elems + uptoBulkAll spare + 1
  | .agg parts => uptoBulkAll parts + 1
  | .iface _ d => uptoBulk d + 1
  | .map entries => uptoBulkEntries entries + 1
  | .held _ => 1
def uptoBulkAll {H : Type} : List (DataW H) → Nat
  | [] => 0
  | d :: r => uptoBulk d + uptoBulkAll r
def uptoBulkEntries {H : Type} : List (Lit × DataW H) → Nat
  | [] => 0
  | x :: r => uptoBulkEntry x + uptoBulkEntries r
def uptoBulkEntry {H : Type} : Lit × DataW H → Nat
  | (.string bytes, d) => bytes.length + uptoBulk d + 1
  | (_, d) => uptoBulk d + 1
 end
def uptoSmall : (H : Type) → List (DataW H) → Bool := fun _ ds => decide (uptoBulkAll ds ≤ 1048576)
def OpenSpec.upto (s : _root_.Go.ChangeSpec) : _root_.Go.OpenSpec := { _root_.Go.OpenSpec.ofChange s with cond := some uptoSmall }

/-- 'pantrylaw.RangeParses', WHERE WHAT IT READS IS OF BULK AT MOST 1048576: true; the input reads as it did. -/
def rangeParsesUptoRow : OpenClaim := { program := "ytonfldbigenfhaagreatdoor", sum := "839e2d587fb094c8d31802cce29bd385a5bbcbbd4be539ea507e45f13ce3fb1e", func := "pantry/pantrylaw.RangeParses", spec := "rangeParses", inPlace := ["internal/bytealg.IndexByteString", "internal/bytealg.IndexString"], unfollowed := true, recurses := true, named := ["internal/bytealg.MaxLen", "unicode/utf8.first", "unicode/utf8.acceptRanges"], apart := false, laid := [("unicode/utf8.acceptRanges", laid_unicode_utf8_acceptRanges), ("unicode/utf8.first", laid_unicode_utf8_first)], narrowed := true }
def RangeParsesUptoSaid : Prop := rangeParsesUptoRow.holds Tryz.pinned (OpenSpec.upto rangeParsesSpec)

/-- 'pantrylaw.RangeAdmits', WHERE WHAT IT READS IS OF BULK AT MOST 1048576: true; the input reads as it did. -/
def rangeAdmitsUptoRow : OpenClaim := { program := "ytonfldbigenfhaagreatdoor", sum := "839e2d587fb094c8d31802cce29bd385a5bbcbbd4be539ea507e45f13ce3fb1e", func := "pantry/pantrylaw.RangeAdmits", spec := "rangeAdmits", inPlace := ["internal/bytealg.IndexByteString", "internal/bytealg.IndexString"], unfollowed := true, recurses := true, named := ["internal/bytealg.MaxLen", "unicode/utf8.first", "unicode/utf8.acceptRanges"], apart := false, laid := [("unicode/utf8.acceptRanges", laid_unicode_utf8_acceptRanges), ("unicode/utf8.first", laid_unicode_utf8_first)], narrowed := true }
def RangeAdmitsUptoSaid : Prop := rangeAdmitsUptoRow.holds Tryz.pinned (OpenSpec.upto rangeAdmitsSpec)

/-- 'pantrylaw.RangeMeans', WHERE WHAT IT READS IS OF BULK AT MOST 1048576: true; the input reads as it did. -/
def rangeMeansUptoRow : OpenClaim := { program := "ytonfldbigenfhaagreatdoor", sum := "839e2d587fb094c8d31802cce29bd385a5bbcbbd4be539ea507e45f13ce3fb1e", func := "pantry/pantrylaw.RangeMeans", spec := "rangeMeans", inPlace := ["internal/bytealg.IndexByteString", "internal/bytealg.IndexString"], unfollowed := true, recurses := true, named := ["internal/bytealg.MaxLen", "unicode/utf8.first", "unicode/utf8.acceptRanges"], apart := false, laid := [("unicode/utf8.acceptRanges", laid_unicode_utf8_acceptRanges), ("unicode/utf8.first", laid_unicode_utf8_first)], narrowed := true }
def RangeMeansUptoSaid : Prop := rangeMeansUptoRow.holds Tryz.pinned (OpenSpec.upto rangeMeansSpec)

/-- 'pantrylaw.RangeBack', WHERE WHAT IT READS IS OF BULK AT MOST 1048576: true; the input reads as it did. -/
def rangeBackUptoRow : OpenClaim := { program := "ytonfldbigenfhaagreatdoor", sum := "839e2d587fb094c8d31802cce29bd385a5bbcbbd4be539ea507e45f13ce3fb1e", func := "pantry/pantrylaw.RangeBack", spec := "rangeBack", inPlace := ["internal/bytealg.IndexByteString", "internal/bytealg.IndexString", "internal/abi.NoEscape", "internal/bytealg.MakeNoZero"], unfollowed := true, recurses := true, named := ["internal/bytealg.MaxLen", "unicode/utf8.first", "unicode/utf8.acceptRanges", "internal/strconv.uint64pow10", "math/bits.deBruijn32tab", "math/bits.deBruijn64tab"], apart := false, laid := [("math/bits.deBruijn32tab", laid_math_bits_deBruijn32tab), ("math/bits.deBruijn64tab", laid_math_bits_deBruijn64tab), ("internal/strconv.uint64pow10", laid_internal_strconv_uint64pow10), ("unicode/utf8.acceptRanges", laid_unicode_utf8_acceptRanges), ("unicode/utf8.first", laid_unicode_utf8_first)], narrowed := true }
def RangeBackUptoSaid : Prop := rangeBackUptoRow.holds Tryz.pinned (OpenSpec.upto rangeBackSpec)

/-- 'pantrylaw.RangeSets', WHERE WHAT IT READS IS OF BULK AT MOST 1048576: true; the input reads as it did. -/
def rangeSetsUptoRow : OpenClaim := { program := "ytonfldbigenfhaagreatdoor", sum := "839e2d587fb094c8d31802cce29bd385a5bbcbbd4be539ea507e45f13ce3fb1e", func := "pantry/pantrylaw.RangeSets", spec := "rangeSets", inPlace := ["internal/bytealg.IndexByteString", "internal/bytealg.IndexString"], unfollowed := true, recurses := true, named := ["internal/bytealg.MaxLen", "unicode/utf8.first", "unicode/utf8.acceptRanges"], apart := false, laid := [("unicode/utf8.acceptRanges", laid_unicode_utf8_acceptRanges), ("unicode/utf8.first", laid_unicode_utf8_first)], narrowed := true }
def RangeSetsUptoSaid : Prop := rangeSetsUptoRow.holds Tryz.pinned (OpenSpec.upto rangeSetsSpec)

/-- 'pantrylaw.RangeCarets', WHERE WHAT IT READS IS OF BULK AT MOST 1048576: true; the input reads as it did. -/
def rangeCaretsUptoRow : OpenClaim := { program := "ytonfldbigenfhaagreatdoor", sum := "839e2d587fb094c8d31802cce29bd385a5bbcbbd4be539ea507e45f13ce3fb1e", func := "pantry/pantrylaw.RangeCarets", spec := "rangeCarets", inPlace := ["internal/bytealg.IndexByteString", "internal/bytealg.IndexString"], unfollowed := true, recurses := true, named := ["internal/bytealg.MaxLen", "unicode/utf8.first", "unicode/utf8.acceptRanges"], apart := false, laid := [("unicode/utf8.acceptRanges", laid_unicode_utf8_acceptRanges), ("unicode/utf8.first", laid_unicode_utf8_first)], narrowed := true }
def RangeCaretsUptoSaid : Prop := rangeCaretsUptoRow.holds Tryz.pinned (OpenSpec.upto rangeCaretsSpec)

/-- 'pantrylaw.RangeTildes', WHERE WHAT IT READS IS OF BULK AT MOST 1048576: true; the input reads as it did. -/
def rangeTildesUptoRow : OpenClaim := { program := "ytonfldbigenfhaagreatdoor", sum := "839e2d587fb094c8d31802cce29bd385a5bbcbbd4be539ea507e45f13ce3fb1e", func := "pantry/pantrylaw.RangeTildes", spec := "rangeTildes", inPlace := ["internal/bytealg.IndexByteString", "internal/bytealg.IndexString"], unfollowed := true, recurses := true, named := ["internal/bytealg.MaxLen", "unicode/utf8.first", "unicode/utf8.acceptRanges"], apart := false, laid := [("unicode/utf8.acceptRanges", laid_unicode_utf8_acceptRanges), ("unicode/utf8.first", laid_unicode_utf8_first)], narrowed := true }
def RangeTildesUptoSaid : Prop := rangeTildesUptoRow.holds Tryz.pinned (OpenSpec.upto rangeTildesSpec)

/-- 'pantrylaw.RangeSides', WHERE WHAT IT READS IS OF BULK AT MOST 1048576: true; the input reads as it did. -/
def rangeSidesUptoRow : OpenClaim := { program := "ytonfldbigenfhaagreatdoor", sum := "839e2d587fb094c8d31802cce29bd385a5bbcbbd4be539ea507e45f13ce3fb1e", func := "pantry/pantrylaw.RangeSides", spec := "rangeSides", inPlace := ["internal/bytealg.IndexByteString", "internal/bytealg.IndexString"], unfollowed := true, recurses := true, named := ["internal/bytealg.MaxLen", "unicode/utf8.first", "unicode/utf8.acceptRanges"], apart := false, laid := [("unicode/utf8.acceptRanges", laid_unicode_utf8_acceptRanges), ("unicode/utf8.first", laid_unicode_utf8_first)], narrowed := true }
def RangeSidesUptoSaid : Prop := rangeSidesUptoRow.holds Tryz.pinned (OpenSpec.upto rangeSidesSpec)

end Rows
end Go.Proofs.YtonfldbigenfhaaGreatDoor
