/-
  How edges are compared, walked.
-/
import Derived.Test.YtffogcjlpojpdaaDoorGe
import Derived.Test.YtffogcjlpojpdaaDoorPb
namespace Go.Proofs.YtffogcjlpojpdaaDoor
open Go.RowKit
set_option linter.unusedVariables false

set_option maxRecDepth 100000 in
set_option maxHeartbeats 800000 in
theorem cmpE_any (x y : Er) (w : World) (hx : x.a4.size ≤ 1048576) (hy : y.a4.size ≤ 1048576) :
    Calls Tryd.prog 52 #[.agg (erC x).toArray, .agg (erC y).toArray] w fun e w' => e = .returned (.int .i64 (verC (toEd x).at_ (toEd y).at_)) ∧ Gr w w' := by
  obtain ⟨a1, a2, a3, a4, a5, l, d⟩ := x
  obtain ⟨b1, b2, b3, b4, b5, m, c⟩ := y
  obtain ⟨r, hr⟩ : ∃ r, verC (toEd ⟨a1, a2, a3, a4, a5, l, d⟩).at_ (toEd ⟨b1, b2, b3, b4, b5, m, c⟩).at_ = r := ⟨_, rfl⟩
  have CC : Hid (∀ w, Calls Tryd.prog 8 #[.agg #[.int .i64 a1, .int .i64 a2, .int .i64 a3, .string a4, .string a5], .agg #[.int .i64 b1, .int .i64 b2, .int .i64 b3, .string b4, .string b5]] w fun e w' => e = .returned (.int .i64 r) ∧ Gr w w') := fun w => by
    rw [← hr]; exact G.compare_any a1 a2 a3 b1 b2 b3 a4 a5 b4 b5 w (by simp at hx; omega) (by simp at hy; omega)
  rw [hr]
  clear hr hx hy
  show Calls Tryd.prog 52 #[.agg #[.int .i64 a1, .int .i64 a2, .int .i64 a3, .string a4, .string a5, .int .i64 l, .int .i64 d], .agg #[.int .i64 b1, .int .i64 b2, .int .i64 b3, .string b4, .string b5, .int .i64 m, .int .i64 c]] w _
  go_enter Tryd.func52, Tryd.ntmps52
  go_wp2_with (first | (go_at_call 8; refine (CC.out _).mono ?_))
  rintro e w1 ⟨rfl, hg⟩
  go_wp2
  go_ret
  exact ⟨rfl, gr_trans (gr_alloc (gr_alloc (gr_refl w) _) _) hg⟩
end Go.Proofs.YtffogcjlpojpdaaDoor
