/-
  The small functions of the sweep, walked.
-/
import Derived.Test.YtffogcjlpojpdaaDoorCl
import Derived.Test.YtffogcjlpojpdaaDoorVx
import Derived.Test.YtffogcjlpojpdaaDoorSf
import Derived.Test.YtffogcjlpojpdaaDoorMd
namespace Go.Proofs.YtffogcjlpojpdaaDoor
open Go.RowKit
set_option linter.unusedVariables false

set_option maxHeartbeats 400000 in
theorem some_any (x y : Int) (w : World) : Calls Tryd.prog 30 #[.int .i64 x, .int .i64 y] w fun e w' => e = .returned (.bool (decide (0 < x))) ∧ w' = w := by
  go_enter Tryd.func30, Tryd.ntmps30
  go_wp2
  go_ret
  exact ⟨rfl, rfl⟩
set_option maxHeartbeats 400000 in
theorem every_any (x y : Int) (w : World) : Calls Tryd.prog 31 #[.int .i64 x, .int .i64 y] w fun e w' => e = .returned (.bool (decide (x = y))) ∧ w' = w := by
  go_enter Tryd.func31, Tryd.ntmps31
  go_wp2
  go_ret
  exact ⟨ret_bool (by rw [Bool.eq_iff_iff]; simp), rfl⟩
set_option maxHeartbeats 400000 in
theorem begin_any (g o : Nat) (x d : Int) (w : World) (h : w.cell? ⟨g, o, none⟩ = some (.int .i64 x)) (hf : w.frozen? ⟨g, o, none⟩ = false) (h1 : -4611686018427387904 ≤ x ∧ x ≤ 4611686018427387904) (h2 : -1 ≤ d ∧ d ≤ 1) :
    Calls Tryd.prog 41 #[.pointer (some ⟨g, o, none⟩), .int .i64 d] w fun e w' => e = .returned (.int .i64 (min (x + d) 1 - min x 1)) ∧ w' = w.setCell ⟨g, o, none⟩ (.int .i64 (x + d)) := by
  have r1 : IntKind.i64.wrap (x + d) = x + d := by rw [IntKind.wrap_i64]; omega
  have r2 : IntKind.i64.wrap (min (x + d) 1 - min x 1) = min (x + d) 1 - min x 1 := by rw [IntKind.wrap_i64]; omega
  go_enter Tryd.func41, Tryd.ntmps41
  go_wp2
  go_ret
  exact ⟨rfl, rfl⟩
set_option maxHeartbeats 400000 in
theorem bound_any (a1 a2 a3 : Int) (a4 a5 : ByteArray) (w : World) (hs : a4.size ≤ 281474976710656) :
    Calls Tryd.prog 42 #[.agg #[.int .i64 a1, .int .i64 a2, .int .i64 a3, .string a4, .string a5]] w fun e w' => e = .returned (.agg #[.int .i64 a1, .int .i64 a2, .int .i64 a3, .string a4, .string ⟨#[]⟩]) ∧ w.grownBy w' none := by
  have CC : Hid (∀ w, Calls Tryd.prog 53 #[.string a4] w fun e w' => e = .returned (.string a4) ∧ w.grownBy w' none) := fun w => clone_any a4 w hs
  clear hs
  go_enter Tryd.func42, Tryd.ntmps42
  go_wp2_with (first | (go_at_call 53; refine (CC.out _).mono ?_))
  rintro e w1 ⟨rfl, hg⟩
  obtain ⟨A, hA⟩ : ∃ A, w.heap.size = A := ⟨_, rfl⟩
  have HXA : Hid (VX A a1 a2 a3 a4 a5 w1) := by
    show w1.heap[A]? = _
    rw [hg.block A (by rw [← hA]; simp; omega) (by simp), ← hA, Lib.alloc_old _ _ _ (by simp)]
    exact heap_alloc_new w _
  have HXB : Hid (VX (A + 1) 0 0 0 ⟨#[]⟩ ⟨#[]⟩ w1) := by
    show w1.heap[A + 1]? = _
    rw [hg.block (A + 1) (by rw [← hA]; simp) (by simp)]
    have := heap_alloc_new (w.alloc (.cells #[.int .i64 a1, .int .i64 a2, .int .i64 a3, .string a4, .string a5] 26)) (.cells #[.int .i64 0, .int .i64 0, .int .i64 0, .string ⟨#[]⟩, .string ⟨#[]⟩] 26)
    rw [← hA]
    simpa using this
  have HG : Hid (w.grownBy w1 none) := gb_trans (gb_alloc (gb_alloc (gb_refl w none) _) _) hg
  have HWA : Hid (w.heap.size ≤ A) := Nat.le_of_eq hA
  rw [hA]
  clear hA hg
  obtain ⟨v0, v1, v2, v3, v4⟩ := HXA.out.cells
  have vf := HXA.out.f
  obtain ⟨u0, u1, u2, u3, u4⟩ := HXB.out.cells
  have uf := HXB.out.f
  go_wp2
  have hB : VX (A + 1) 0 0 0 ⟨#[]⟩ ⟨#[]⟩ ((w1.setCell ⟨A, 3, none⟩ (.string a4)).setCell ⟨A, 4, none⟩ (.string ⟨#[]⟩)) := (HXB.out.other (by omega) _ _).other (by omega) _ _
  refine bodyPost_ret (results_cell_row rfl _ _ (A + 1) 26 #[.int .i64 a1, .int .i64 a2, .int .i64 a3, .string a4, .string ⟨#[]⟩] (0, 0) _ rfl (put5_row hB a1 a2 a3 a4 ⟨#[]⟩) Tryd.underlying26 rfl (by kernel_rfl)) rfl ⟨rfl, ?_⟩
  have h0 := HWA.out
  exact put5_gb0 (gb_new0 (gb_new0 HG.out h0 _ _) h0 _ _) (by omega) a1 a2 a3 a4 ⟨#[]⟩
end Go.Proofs.YtffogcjlpojpdaaDoor
