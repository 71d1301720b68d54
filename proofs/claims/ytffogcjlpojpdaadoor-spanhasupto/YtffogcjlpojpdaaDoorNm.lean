/-
  An errno as a number, walked.
-/
import Derived.Test.YtffogcjlpojpdaaDoorLk
namespace Go.Proofs.YtffogcjlpojpdaaDoor
open Go.RowKit
set_option linter.unusedVariables false

set_option maxHeartbeats 400000 in
theorem lnum_any (n : Int) (w : World) : Calls Tryd.prog 17 #[.int .i64 n] w fun e w' => e = .returned (.int .i64 n) ∧ w' = w := by
  go_enter Tryd.func17, Tryd.ntmps17
  go_wp2
  go_ret
  exact ⟨rfl, rfl⟩
theorem lnum_gb (n : Int) (w : World) : Calls Tryd.prog 17 #[.int .i64 n] w fun e w' => e = .returned (.int .i64 n) ∧ w.grownBy w' none := by
  refine (lnum_any n w).mono ?_
  rintro e w' ⟨rfl, rfl⟩
  exact ⟨rfl, gb_refl _ _⟩

end Go.Proofs.YtffogcjlpojpdaaDoor
