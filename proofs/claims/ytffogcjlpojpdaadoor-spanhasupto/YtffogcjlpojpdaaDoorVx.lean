/-
  A version's block, written and read.
-/
import Derived.Test.YtffogcjlpojpdaaDoorLk
namespace Go.Proofs.YtffogcjlpojpdaaDoor
open Go.RowKit
set_option linter.unusedVariables false

def VX (v : Nat) (y1 y2 y3 : Int) (x4 x5 : ByteArray) (w : World) : Prop := w.heap[v]? = some (.cells #[.int .i64 y1, .int .i64 y2, .int .i64 y3, .string x4, .string x5] 26 (0, 0))
theorem VX.cells {v : Nat} {y1 y2 y3 : Int} {x4 x5 : ByteArray} {w : World} (h : VX v y1 y2 y3 x4 x5 w) : w.cell? ⟨v, 0, none⟩ = some (.int .i64 y1) ∧ w.cell? ⟨v, 1, none⟩ = some (.int .i64 y2) ∧ w.cell? ⟨v, 2, none⟩ = some (.int .i64 y3) ∧ w.cell? ⟨v, 3, none⟩ = some (.string x4) ∧ w.cell? ⟨v, 4, none⟩ = some (.string x5) :=
  ⟨by rw [Lib.cell_of_heap h]; rfl, by rw [Lib.cell_of_heap h]; rfl, by rw [Lib.cell_of_heap h]; rfl, by rw [Lib.cell_of_heap h]; rfl, by rw [Lib.cell_of_heap h]; rfl⟩
theorem VX.f {v : Nat} {y1 y2 y3 : Int} {x4 x5 : ByteArray} {w : World} (h : VX v y1 y2 y3 x4 x5 w) (o : Nat) : w.frozen? ⟨v, o, none⟩ = false := Lib.frozen_of_heap h o
theorem VX.grow {b v : Nat} {y1 y2 y3 : Int} {x4 x5 : ByteArray} {w w' : World} (h : VX v y1 y2 y3 x4 x5 w) (hg : w.grownBy w' (some b)) (hn : v ≠ b) : VX v y1 y2 y3 x4 x5 w' := by
  unfold VX at h ⊢
  rw [hg.block v ((Array.getElem?_eq_some_iff.1 h).1) (by simpa using hn)]; exact h
theorem VX.set3 {v : Nat} {y1 y2 y3 : Int} {x4 x5 : ByteArray} {w : World} (h : VX v y1 y2 y3 x4 x5 w) (z : ByteArray) : VX v y1 y2 y3 z x5 (w.setCell ⟨v, 3, none⟩ (.string z)) := by
  unfold VX at h ⊢; simp [World.setCell, Array.getElem?_modify, h]
theorem VX.set4 {v : Nat} {y1 y2 y3 : Int} {x4 x5 : ByteArray} {w : World} (h : VX v y1 y2 y3 x4 x5 w) (z : ByteArray) : VX v y1 y2 y3 x4 z (w.setCell ⟨v, 4, none⟩ (.string z)) := by
  unfold VX at h ⊢; simp [World.setCell, Array.getElem?_modify, h]
theorem VX.other {v u : Nat} {y1 y2 y3 : Int} {x4 x5 : ByteArray} {w : World} (h : VX v y1 y2 y3 x4 x5 w) (hn : v ≠ u) (o : Nat) (x : Value) : VX v y1 y2 y3 x4 x5 (w.setCell ⟨u, o, none⟩ x) := by
  unfold VX at h ⊢; rw [← h]; exact heap_setCell_other w _ v x hn
/-- the result's block written -/
def put5 (w : World) (A : Nat) (y1 y2 y3 : Int) (x4 x5 : ByteArray) : World := ((((w.setCell ⟨A, 0, none⟩ (.int .i64 y1)).setCell ⟨A, 1, none⟩ (.int .i64 y2)).setCell ⟨A, 2, none⟩ (.int .i64 y3)).setCell ⟨A, 3, none⟩ (.string x4)).setCell ⟨A, 4, none⟩ (.string x5)
theorem put5_row {w : World} {A : Nat} {z1 z2 z3 : Int} {z4 z5 : ByteArray} (h : VX A z1 z2 z3 z4 z5 w) (y1 y2 y3 : Int) (x4 x5 : ByteArray) : VX A y1 y2 y3 x4 x5 (put5 w A y1 y2 y3 x4 x5) := by
  unfold VX at h ⊢; unfold put5; simp [World.setCell, Array.getElem?_modify, h]
theorem gb_new {b A : Nat} {w W : World} (h : w.grownBy W (some b)) (hA : w.heap.size ≤ A) (o : Nat) (x : Value) : w.grownBy (W.setCell ⟨A, o, none⟩ x) (some b) :=
  ⟨h.os, h.tape, h.output, by simpa [World.setCell] using h.size, fun k hk hn => by rw [← h.block k hk hn]; exact heap_setCell_other W _ k x (by simp; omega)⟩
theorem put5_gb {b A : Nat} {w W : World} (h : w.grownBy W (some b)) (hA : w.heap.size ≤ A) (y1 y2 y3 : Int) (x4 x5 : ByteArray) : w.grownBy (put5 W A y1 y2 y3 x4 x5) (some b) := gb_new (gb_new (gb_new (gb_new (gb_new h hA _ _) hA _ _) hA _ _) hA _ _) hA _ _
theorem res_row_tmp {P : Program} {fn : Func} {p u : Tmp} {ty : TypeId} (h : fn.results = #[.cell p ty, .tmp u]) (tmps : Array Value) (w : World) (g : Nat) (t : TypeId) (cs : Array Value) (fr : Nat × Nat) (d : TypeDesc)
    (hp : tmps.getD p undef = .pointer (some ⟨g, 0, none⟩)) (hg : w.heap[g]? = some (.cells cs t fr)) (hu : P.underlying ty = some d) (hd : (match d with | .struct _ | .array _ _ => true | _ => false) = true) (hi : (P.info? ty).map (·.size) = some cs.size) :
    (results fn tmps).run P w = .ok (.tuple #[.agg cs, tmps.getD u undef]) w := by
  rw [results_cell_tmp h, hp]
  simp [asAddr, run_loadVar_row w g t ty cs fr d hg hu hd hi, Result.andThen]

set_option linter.unusedVariables false

theorem res_row_tmp2 {P : Program} {fn : Func} {p u r : Tmp} {ty : TypeId} (h : fn.results = #[.cell p ty, .tmp u, .tmp r]) (tmps : Array Value) (w : World) (g : Nat) (t : TypeId) (cs : Array Value) (fr : Nat × Nat) (d : TypeDesc)
    (hp : tmps.getD p undef = .pointer (some ⟨g, 0, none⟩)) (hg : w.heap[g]? = some (.cells cs t fr)) (hu : P.underlying ty = some d) (hd : (match d with | .struct _ | .array _ _ => true | _ => false) = true) (hi : (P.info? ty).map (·.size) = some cs.size) :
    (results fn tmps).run P w = .ok (.tuple #[.agg cs, tmps.getD u undef, tmps.getD r undef]) w := by
  have hp' : tmps[p]?.getD undef = .pointer (some ⟨g, 0, none⟩) := by simpa using hp
  simp [results, h, Result.andThen, hp', asAddr, run_loadVar_row w g t ty cs fr d hg hu hd hi]

theorem gb_new0 {A : Nat} {w W : World} (h : w.grownBy W none) (hA : w.heap.size ≤ A) (o : Nat) (x : Value) : w.grownBy (W.setCell ⟨A, o, none⟩ x) none :=
  ⟨h.os, h.tape, h.output, by simpa [World.setCell] using h.size, fun k hk hn => by rw [← h.block k hk hn]; exact heap_setCell_other W _ k x (by simp; omega)⟩
theorem put5_gb0 {A : Nat} {w W : World} (h : w.grownBy W none) (hA : w.heap.size ≤ A) (y1 y2 y3 : Int) (x4 x5 : ByteArray) : w.grownBy (put5 W A y1 y2 y3 x4 x5) none := gb_new0 (gb_new0 (gb_new0 (gb_new0 (gb_new0 h hA _ _) hA _ _) hA _ _) hA _ _) hA _ _
end Go.Proofs.YtffogcjlpojpdaaDoor
