/-
  The walk of plus.
-/
import Derived.Test.YtfgjlfdiljlfnaaDoorArr
namespace Go.Proofs.YtfgjlfdiljlfnaaDoor
open Go.RowKit
set_option linter.unusedVariables false

set_option maxHeartbeats 1000000 in
theorem plus_any (a b : List Int) (ha : a.length = 8) (hb : b.length = 8) (w : World) : Calls Tryd.prog 16 #[.agg (r32 a), .agg (r32 b)] w fun e w' => e = .returned (.agg (r32 (padd a b))) ∧ Below w.heap.size w w' := by
  go_enter Tryd.func16, Tryd.ntmps16
  go_wp2
  go_loopw [6] (fun i wr => ∃ k : Nat, k ≤ 8 ∧ i = .int .i64 k ∧ wr.heap[w.heap.size]? = some (.cells (r32 (addK a b k)) 30 (0, 0)) ∧ wr.heap[w.heap.size + 1]? = some (.cells (r32 b) 30 (0, 0)) ∧ wr.heap[w.heap.size + 1 + 1]? = some (.cells (r32 z8) 30 (0, 0)) ∧ Below w.heap.size w wr) (fun i _ => 8 - (intOf i).toNat)
  case atStart =>
    refine ⟨0, by omega, rfl, ?_, ?_, ?_, ?_⟩
    · rw [addK_zero a b ha, Below.heap_alloc _ _ _ (by simp; omega), Below.heap_alloc _ _ _ (by simp)]
      exact heap_alloc_new w _
    · rw [Below.heap_alloc _ _ _ (by simp)]
      have := heap_alloc_new (w.alloc (Obj.cells (r32 a) 30)) (Obj.cells (r32 b) 30)
      simpa using this
    · have := heap_alloc_new ((w.alloc (Obj.cells (r32 a) 30)).alloc (Obj.cells (r32 b) 30)) (Obj.cells (r32 z8) 30)
      rw [World.size_alloc, World.size_alloc] at this
      exact this
    · exact (((Below.refl _ _).alloc (Nat.le_refl _) _).alloc (by simp) _).alloc (by simp; omega) _
  case round =>
    obtain ⟨k, hk, rfl, hA, hB, hC, hbl⟩ := hrel
    by_cases hlt : k < 8
    · have hi0 : (0 : Int) ≤ (k : Int) := by omega
      have hi1 : (k : Int) < 8 := by omega
      have c1 : wr.cell? ⟨w.heap.size, k, none⟩ = some (.int .u32 (nth a k)) := by rw [cell32 hA k (by rw [addK_len]; exact hlt), addK_at a b k hlt]
      have c2 : wr.cell? ⟨w.heap.size + 1, k, none⟩ = some (.int .u32 (nth b k)) := cell32 hB k (by omega)
      have f1 : wr.frozen? ⟨w.heap.size, k, none⟩ = false := frozen_of_row _ _ _ _ _ hA
      have HA : Hid (wr.heap[w.heap.size]? = some (.cells (r32 (addK a b k)) 30 (0, 0))) := hA
      have HB : Hid (wr.heap[w.heap.size + 1]? = some (.cells (r32 b) 30 (0, 0))) := hB
      have HC : Hid (wr.heap[w.heap.size + 1 + 1]? = some (.cells (r32 z8) 30 (0, 0))) := hC
      clear hA hB hC
      go_wp2
      go_region
      all_goals go_wp2
      all_goals
        go_roundw
        case rel =>
          refine ⟨k + 1, by omega, by go_num, ?_, ?_, ?_, ?_⟩
          · rw [← addK_set a b k hlt]
            exact set32 (w := wr) HA.out k _
          · exact setOther (w := wr) HB.out _ _ (by simp)
          · exact setOther (w := wr) HC.out _ _ (by simp; omega)
          · exact (hbl.setCell (p := ⟨w.heap.size, k, none⟩) (Nat.le_refl _) _).drew
        case measure => simp [intOf]; omega
    · obtain rfl : k = 8 := by omega
      have hA' : wr.heap[w.heap.size]? = some (.cells (r32 (padd a b)) 30 (0, 0)) := hA
      clear hA
      go_wp2_with (first | (refine wpList_load_row rfl 30 _ rfl w.heap.size rfl 30 _ (0, 0) _ hA' Tryd.underlying30 rfl (by rw [r32_size, padd, addK_len]; exact i30) ?_) | (refine wpList_store_row rfl 30 _ _ rfl (w.heap.size + 1 + 1) (r32 (padd a b)) rfl rfl 30 _ hC (by rw [r32_size, padd, addK_len]; exact i30) (by rw [r32_size, r32_size, padd, addK_len]; rfl) (r32_one _) ?_))
      refine bodyPost_ret (results_cell_row rfl _ _ (w.heap.size + 1 + 1) 30 (r32 (padd a b)) (0, 0) _ rfl (rowSame hC _) Tryd.underlying30 rfl (by rw [r32_size, padd, addK_len]; exact i30)) rfl ⟨rfl, ?_⟩
      exact belowRow hbl (by omega) _
end Go.Proofs.YtfgjlfdiljlfnaaDoor
