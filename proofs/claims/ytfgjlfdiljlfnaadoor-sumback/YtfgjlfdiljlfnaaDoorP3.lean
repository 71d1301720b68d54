/-
  The walk of words.
-/
import Derived.Test.YtfgjlfdiljlfnaaDoorArr
namespace Go.Proofs.YtfgjlfdiljlfnaaDoor
open Go.RowKit
set_option linter.unusedVariables false
theorem blocks3 (w : World) (o0 o1 o2 : Obj) (W : World) (hW : ((w.alloc o0).alloc o1).alloc o2 = W) :
    W.heap[w.heap.size]? = some o0 ∧ W.heap[w.heap.size + 1]? = some o1 ∧ W.heap[w.heap.size + 1 + 1]? = some o2 ∧ Below w.heap.size w W := by
  subst hW
  refine ⟨?_, ?_, ?_, (((Below.refl _ _).alloc (Nat.le_refl _) _).alloc (by simp) _).alloc (by simp; omega) _⟩
  · rw [Below.heap_alloc _ _ _ (by simp; omega), Below.heap_alloc _ _ _ (by simp)]
    exact heap_alloc_new w _
  · rw [Below.heap_alloc _ _ _ (by simp)]
    have := heap_alloc_new (w.alloc o0) o1
    simpa using this
  · have := heap_alloc_new ((w.alloc o0).alloc o1) o2
    rw [World.size_alloc, World.size_alloc] at this
    exact this
def pWord (c : List UInt8) (k : Nat) : Int := bits BinOp.or IntKind.u32 (bits BinOp.or IntKind.u32 (bits BinOp.or IntKind.u32 (((nb c (4 * k)).toNat : Int) * 16777216) (((nb c (4 * k + 1)).toNat : Int) * 65536)) (((nb c (4 * k + 2)).toNat : Int) * 256)) ((nb c (4 * k + 3)).toNat : Int)
def pWords (c : List UInt8) (k : Nat) : List Int := (List.range 16).map fun i => if i < k then pWord c i else 0
theorem pWords_len (c : List UInt8) (k : Nat) : (pWords c k).length = 16 := by simp [pWords]
theorem pWords_set (c : List UInt8) (k : Nat) (hk : k < 16) : (pWords c k).set k (pWord c k) = pWords c (k + 1) := by
  apply List.ext_getElem
  · simp [pWords]
  · intro i h1 h2
    simp [pWords] at h1
    rw [List.getElem_set]
    simp only [pWords, List.getElem_map, List.getElem_range]
    by_cases e : k = i
    · subst e; simp
    · rw [if_neg e]
      by_cases h3 : i < k
      · rw [if_pos h3, if_pos (by omega)]
      · rw [if_neg h3, if_neg (by omega)]

set_option maxHeartbeats 1000000 in
set_option maxRecDepth 100000 in
theorem words_any (c : List UInt8) (hc : c.length = 64) (w : World) :
    Calls Tryd.prog 18 #[.agg (r8 c)] w fun e w' => e = .returned (.agg (r32 (pWords c 16))) ∧ Below w.heap.size w w' := by
  go_enter Tryd.func18, Tryd.ntmps18
  go_wp2
  obtain ⟨W, hW⟩ : ∃ W, ((w.alloc (Obj.cells (r8 c) 36)).alloc (Obj.cells (r32 z16) 42)).alloc (Obj.cells (r32 z16) 42) = W := ⟨_, rfl⟩
  obtain ⟨h0, h1, h2, hb⟩ := blocks3 w _ _ _ W hW
  change Code.wp _ _ _ _ (((w.alloc (Obj.cells (r8 c) 36)).alloc (Obj.cells (r32 z16) 42)).alloc (Obj.cells (r32 z16) 42))
  rw [hW]
  clear hW
  go_loopw [6] (fun i wr => ∃ k : Nat, k ≤ 16 ∧ i = .int .i64 k ∧ wr.heap[w.heap.size]? = some (.cells (r8 c) 36 (0, 0)) ∧ wr.heap[w.heap.size + 1]? = some (.cells (r32 z16) 42 (0, 0)) ∧ wr.heap[w.heap.size + 1 + 1]? = some (.cells (r32 (pWords c k)) 42 (0, 0)) ∧ Below w.heap.size w wr) (fun i _ => 16 - (intOf i).toNat)
  case atStart => exact ⟨0, by omega, rfl, h0, h1, h2, hb⟩
  case round =>
    obtain ⟨k, hk, rfl, g0, g1, g2, hbl⟩ := hrel
    clear h0 h1 h2 hb
    by_cases hlt : k < 16
    · have hi0 : (0 : Int) ≤ (k : Int) := by omega
      have hi1 : (k : Int) < 16 := by omega
      have a0 : (0 : Int) ≤ 4 * (k : Int) := by omega
      have a1 : 4 * (k : Int) < 64 := by omega
      have a2 : 4 * (k : Int) + 1 < 64 := by omega
      have a3 : 4 * (k : Int) + 2 < 64 := by omega
      have a4 : 4 * (k : Int) + 3 < 64 := by omega
      have c0 : wr.cell? ⟨w.heap.size, 4 * k, none⟩ = some (.int .u8 ((nb c (4 * k)).toNat : Int)) := cell8 g0 _ (by omega)
      have c1 : wr.cell? ⟨w.heap.size, 4 * k + 1, none⟩ = some (.int .u8 ((nb c (4 * k + 1)).toNat : Int)) := cell8 g0 _ (by omega)
      have c2 : wr.cell? ⟨w.heap.size, 4 * k + 2, none⟩ = some (.int .u8 ((nb c (4 * k + 2)).toNat : Int)) := cell8 g0 _ (by omega)
      have c3 : wr.cell? ⟨w.heap.size, 4 * k + 3, none⟩ = some (.int .u8 ((nb c (4 * k + 3)).toNat : Int)) := cell8 g0 _ (by omega)
      have d0 : wr.cell? ⟨w.heap.size + 1 + 1, k, none⟩ = some (.int .u32 (nth (pWords c k) k)) := cell32 g2 _ (by rw [pWords_len]; omega)
      have f0 : wr.frozen? ⟨w.heap.size + 1 + 1, k, none⟩ = false := frozen_of_row _ _ _ _ _ g2
      have b0 : ((nb c (4 * k)).toNat : Int) ≤ 255 := by have := (nb c (4 * k)).toNat_lt; omega
      have b1 : ((nb c (4 * k + 1)).toNat : Int) ≤ 255 := by have := (nb c (4 * k + 1)).toNat_lt; omega
      have b2 : ((nb c (4 * k + 2)).toNat : Int) ≤ 255 := by have := (nb c (4 * k + 2)).toNat_lt; omega
      have b3 : ((nb c (4 * k + 3)).toNat : Int) ≤ 255 := by have := (nb c (4 * k + 3)).toNat_lt; omega
      have G0 : Hid (wr.heap[w.heap.size]? = some (.cells (r8 c) 36 (0, 0))) := g0
      have G1 : Hid (wr.heap[w.heap.size + 1]? = some (.cells (r32 z16) 42 (0, 0))) := g1
      have G2 : Hid (wr.heap[w.heap.size + 1 + 1]? = some (.cells (r32 (pWords c k)) 42 (0, 0))) := g2
      clear g0 g1 g2
      go_wp2
      go_region
      all_goals go_wp2
      all_goals
        go_roundw
        case rel =>
          refine ⟨k + 1, by omega, by go_num, ?_, ?_, ?_, ?_⟩
          · exact setOther (w := wr) G0.out _ _ (by simp; omega)
          · exact setOther (w := wr) G1.out _ _ (by simp)
          · rw [← pWords_set c k hlt]
            exact set32 (w := wr) G2.out k _
          · exact (hbl.setCell (p := ⟨w.heap.size + 1 + 1, k, none⟩) (by simp; omega) _).drew
        case measure => simp [intOf]; omega
    · obtain rfl : k = 16 := by omega
      go_wp2_with (first | (refine wpList_load_row rfl 42 _ rfl (w.heap.size + 1 + 1) rfl 42 _ (0, 0) _ g2 Tryd.underlying42 rfl (by rw [r32_size, pWords_len]; exact i42) ?_) | (refine wpList_store_row rfl 42 _ _ rfl (w.heap.size + 1) (r32 (pWords c 16)) rfl rfl 42 _ g1 (by rw [r32_size, pWords_len]; exact i42) (by rw [r32_size, r32_size, pWords_len]; rfl) (r32_one _) ?_))
      refine bodyPost_ret (results_cell_row rfl _ _ (w.heap.size + 1) 42 (r32 (pWords c 16)) (0, 0) _ rfl (rowSame g1 _) Tryd.underlying42 rfl (by rw [r32_size, pWords_len]; exact i42)) rfl ⟨rfl, ?_⟩
      exact belowRow hbl (by omega) _
end Go.Proofs.YtfgjlfdiljlfnaaDoor
