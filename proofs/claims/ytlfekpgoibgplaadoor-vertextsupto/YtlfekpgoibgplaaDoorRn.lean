/-
  The next version, told by both.
-/
import Derived.Test.YtlfekpgoibgplaaDoorRe
namespace Go.Proofs.YtlfekpgoibgplaaDoor
open Go.RowKit
set_option linter.unusedVariables false

/-- the next version, as both hold it -/
theorem next_both (a1 a2 a3 : Int) (a4 a5 : ByteArray) (hs : a4.size < 2 ^ 62) (h0 : -9223372036854775808 ≤ a3) :
    ∃ (n3 : Int) (n4 : ByteArray), n4.size ≤ a4.size + 2 ∧ (nextV ⟨a1, a2, a3, a4.data.toList⟩ = ⟨a1, a2, n3, n4.data.toList⟩) ∧
      (∀ w, Calls Tryd.prog 11 #[.agg #[.int .i64 a1, .int .i64 a2, .int .i64 a3, .string a4, .string a5]] w fun e w' => e = .returned (.agg #[.int .i64 a1, .int .i64 a2, .int .i64 n3, .string n4, .string ⟨#[]⟩]) ∧ w.grownBy w' none) ∧
      (∀ w, Calls Tryd.prog 14 #[.agg #[.int .i64 a1, .int .i64 a2, .int .i64 a3, .string a4, .string a5]] w fun e w' => e = .returned (.agg #[.int .i64 a1, .int .i64 a2, .int .i64 n3, .string n4, .string ⟨#[]⟩]) ∧ w.grownBy w' none) := by
  by_cases h4 : a4.size = 0
  · have e : a4.data.toList = [] := List.length_eq_zero_iff.1 (by simpa using h4)
    by_cases h3 : a3 < 4611686018427387904
    · refine ⟨a3 + 1, ⟨#[48]⟩, by show 1 ≤ _; omega, ?_, fun w => next_s a1 a2 a3 a4 a5 w h4 h3 h0, fun w => rnext_s a1 a2 a3 a4 a5 w h4 h3 h0⟩
      unfold nextV; rw [if_pos e, if_pos h3]
    · refine ⟨a3, ⟨#[48]⟩, by show 1 ≤ _; omega, ?_, fun w => next_g a1 a2 a3 a4 a5 w h4 h3, fun w => rnext_g a1 a2 a3 a4 a5 w h4 h3⟩
      unfold nextV; rw [if_pos e, if_neg h3]
  · refine ⟨a3, ⟨(a4.data.toList ++ [46, 48]).toArray⟩, ?_, ?_, fun w => next_f a1 a2 a3 a4 a5 w h4 hs, fun w => rnext_f a1 a2 a3 a4 a5 w h4 hs⟩
    · show (a4.data.toList ++ [46, 48]).toArray.size ≤ _
      simp
    · unfold nextV
      rw [if_neg (fun e => h4 (by have e' : a4.data.toList = [] := e; show a4.data.size = 0; rw [← Array.length_toList, e']; rfl))]

end Go.Proofs.YtlfekpgoibgplaaDoor
