/-
  A version in a block; vers, walked.
-/
import Derived.Test.YtffogcjlpojpdaaDoorId
namespace Go.Proofs.YtffogcjlpojpdaaDoor
open Go.RowKit
set_option linter.unusedVariables false

set_option maxHeartbeats 400000 in
theorem vers_any (a1 a2 a3 : Int) (a4 a5 : ByteArray) (w : World) : Calls Tryd.prog 9 #[.agg #[.int .i64 a1, .int .i64 a2, .int .i64 a3, .string a4, .string a5]] w fun e w' => e = .returned (.agg #[.int .i64 a1, .int .i64 a2, .int .i64 a3, .string a4, .string a5]) ∧ w.grownBy w' none := by
  go_enter Tryd.func9, Tryd.ntmps9
  go_wp2
  refine bodyPost_ret (results_cell_row rfl _ _ (w.heap.size + 1) 26 #[.int .i64 a1, .int .i64 a2, .int .i64 a3, .string a4, .string a5] (0, 0) _ rfl ?_ Tryd.underlying26 rfl (by kernel_rfl)) rfl ⟨rfl, gb_alloc (gb_alloc (gb_refl w none) _) _⟩
  have := heap_alloc_new (w.alloc (.cells #[.int .i64 a1, .int .i64 a2, .int .i64 a3, .string a4, .string a5] 23)) (.cells #[.int .i64 a1, .int .i64 a2, .int .i64 a3, .string a4, .string a5] 26)
  rw [show (w.alloc (.cells #[.int .i64 a1, .int .i64 a2, .int .i64 a3, .string a4, .string a5] 23)).heap.size = w.heap.size + 1 by simp] at this
  exact this

/-- a version lies at block A -/
def St (A : Nat) (a1 a2 a3 : Int) (a4 a5 : ByteArray) (w : World) : Prop := w.cell? ⟨A, 0, none⟩ = some (.int .i64 a1) ∧ w.cell? ⟨A, 1, none⟩ = some (.int .i64 a2) ∧ w.cell? ⟨A, 2, none⟩ = some (.int .i64 a3) ∧ w.cell? ⟨A, 3, none⟩ = some (.string a4) ∧ w.cell? ⟨A, 4, none⟩ = some (.string a5)
theorem St.grow {A : Nat} {a1 a2 a3 : Int} {a4 a5 : ByteArray} {w w' : World} (h : St A a1 a2 a3 a4 a5 w) (hg : w.grownBy w' none) : St A a1 a2 a3 a4 a5 w' :=
  ⟨hg.cell h.1 (by simp), hg.cell h.2.1 (by simp), hg.cell h.2.2.1 (by simp), hg.cell h.2.2.2.1 (by simp), hg.cell h.2.2.2.2 (by simp)⟩
theorem st_row {A t : Nat} {a1 a2 a3 : Int} {a4 a5 : ByteArray} {w : World} (h : w.heap[A]? = some (.cells #[.int .i64 a1, .int .i64 a2, .int .i64 a3, .string a4, .string a5] t (0, 0))) : St A a1 a2 a3 a4 a5 w :=
  ⟨by rw [Lib.cell_of_heap h]; rfl, by rw [Lib.cell_of_heap h]; rfl, by rw [Lib.cell_of_heap h]; rfl, by rw [Lib.cell_of_heap h]; rfl, by rw [Lib.cell_of_heap h]; rfl⟩
theorem keep2 {A B : Nat} {a1 a2 a3 b1 b2 b3 : Int} {a4 a5 b4 b5 : ByteArray} {w w' : World} (hg : w.grownBy w' none) (h : w.cell? ⟨A, 0, none⟩ = some (.int .i64 a1) ∧ w.cell? ⟨A, 1, none⟩ = some (.int .i64 a2) ∧ w.cell? ⟨A, 2, none⟩ = some (.int .i64 a3) ∧ w.cell? ⟨A, 3, none⟩ = some (.string a4) ∧ w.cell? ⟨A, 4, none⟩ = some (.string a5) ∧ w.cell? ⟨B, 0, none⟩ = some (.int .i64 b1) ∧ w.cell? ⟨B, 1, none⟩ = some (.int .i64 b2) ∧ w.cell? ⟨B, 2, none⟩ = some (.int .i64 b3) ∧ w.cell? ⟨B, 3, none⟩ = some (.string b4) ∧ w.cell? ⟨B, 4, none⟩ = some (.string b5)) : w'.cell? ⟨A, 0, none⟩ = some (.int .i64 a1) ∧ w'.cell? ⟨A, 1, none⟩ = some (.int .i64 a2) ∧ w'.cell? ⟨A, 2, none⟩ = some (.int .i64 a3) ∧ w'.cell? ⟨A, 3, none⟩ = some (.string a4) ∧ w'.cell? ⟨A, 4, none⟩ = some (.string a5) ∧ w'.cell? ⟨B, 0, none⟩ = some (.int .i64 b1) ∧ w'.cell? ⟨B, 1, none⟩ = some (.int .i64 b2) ∧ w'.cell? ⟨B, 2, none⟩ = some (.int .i64 b3) ∧ w'.cell? ⟨B, 3, none⟩ = some (.string b4) ∧ w'.cell? ⟨B, 4, none⟩ = some (.string b5) := by
  obtain ⟨h1, h2, h3, h4, h5, h6, h7, h8, h9, h10⟩ := h
  exact ⟨hg.cell h1 (by simp), hg.cell h2 (by simp), hg.cell h3 (by simp), hg.cell h4 (by simp), hg.cell h5 (by simp), hg.cell h6 (by simp), hg.cell h7 (by simp), hg.cell h8 (by simp), hg.cell h9 (by simp), hg.cell h10 (by simp)⟩

end Go.Proofs.YtffogcjlpojpdaaDoor
