/-
  The walks of withLength and text.
-/
import Derived.Test.YtfgjlfdiljlfnaaDoorP3
import Derived.Laws.CopyOwn
import Derived.Deep.MidRow
namespace Go.Proofs.YtfgjlfdiljlfnaaDoor
open Go.RowKit
set_option linter.unusedVariables false

/-- the bytes of c, the last k of them from the number's. -/
def pLen (c : List UInt8) (n : Int) : Nat → List UInt8
  | 0 => c
  | k + 1 => (pLen c n k).set (63 - k) (UInt8.ofNat (n / 256 ^ k % 256).toNat)
theorem pLen_len (c : List UInt8) (n : Int) : ∀ k, (pLen c n k).length = c.length
  | 0 => rfl
  | k + 1 => by simp [pLen, pLen_len c n k]

theorem u8n (q : Int) : ((UInt8.ofNat (q % 256).toNat).toNat : Int) = q % 256 := by
  have h0 : 0 ≤ q % 256 := Int.emod_nonneg _ (by omega)
  have h1 : q % 256 < 256 := Int.emod_lt_of_pos _ (by omega)
  have e : UInt8.size = 256 := rfl
  rw [UInt8.toNat_ofNat_of_lt' (by rw [e]; omega)]
  omega
theorem div_step (n : Int) (k : Nat) (h0 : 0 ≤ n) : n / 256 ^ k / 256 = n / 256 ^ (k + 1) := by
  obtain ⟨m, rfl⟩ := Int.eq_ofNat_of_zero_le h0
  have : ((256 : Int) ^ k) = ((256 ^ k : Nat) : Int) := by simp
  have h2 : ((256 : Int) ^ (k + 1)) = ((256 ^ (k + 1) : Nat) : Int) := by simp
  rw [this, h2, Nat.pow_succ]
  exact congrArg Int.ofNat (Nat.div_div_eq_div_mul m (256 ^ k) 256)

set_option maxHeartbeats 1000000 in
set_option maxRecDepth 100000 in
theorem withLength_any (c : List UInt8) (hc : c.length = 64) (n : Int) (h0 : 0 ≤ n) (hn : n < 18446744073709551616) (w : World) :
    Calls Tryd.prog 32 #[.agg (r8 c), .int .u64 n] w fun e w' => e = .returned (.agg (r8 (pLen c n 8))) ∧ Below w.heap.size w w' := by
  go_enter Tryd.func32, Tryd.ntmps32
  go_wp2
  obtain ⟨W, hW⟩ : ∃ W, (w.alloc (Obj.cells (r8 c) 36)).alloc (Obj.cells (r8 zb64) 36) = W := ⟨_, rfl⟩
  have g0 : W.heap[w.heap.size]? = some (.cells (r8 c) 36 (0, 0)) := by
    rw [← hW, Below.heap_alloc _ _ _ (by simp)]
    exact heap_alloc_new w _
  have g1 : W.heap[w.heap.size + 1]? = some (.cells (r8 zb64) 36 (0, 0)) := by
    rw [← hW]
    have := heap_alloc_new (w.alloc (Obj.cells (r8 c) 36)) (Obj.cells (r8 zb64) 36)
    simpa using this
  have gb : Below w.heap.size w W := by rw [← hW]; exact ((Below.refl _ _).alloc (Nat.le_refl _) _).alloc (by simp) _
  change Code.wp _ _ _ _ ((w.alloc (Obj.cells (r8 c) 36)).alloc (Obj.cells (r8 zb64) 36))
  rw [hW]
  clear hW
  go_loopw [1, 5] (fun v i wr => ∃ k m : Nat, ∃ q : Int, k ≤ 8 ∧ m + k = 63 ∧ i = .int .i64 m ∧ q = n / 256 ^ k ∧ v = .int .u64 q ∧ wr.heap[w.heap.size]? = some (.cells (r8 (pLen c n k)) 36 (0, 0)) ∧ wr.heap[w.heap.size + 1]? = some (.cells (r8 zb64) 36 (0, 0)) ∧ Below w.heap.size w wr) (fun _ i _ => (intOf i).toNat)
  case atStart => exact ⟨0, 63, n, by omega, rfl, rfl, by simp, rfl, g0, g1, gb⟩
  case round =>
    obtain ⟨k, m, q, hk, hm, rfl, hq, rfl, k0, k1, hbl⟩ := hrel
    clear g0 g1 gb
    have q0 : 0 ≤ q := by rw [hq]; exact Int.ediv_nonneg h0 (by exact Int.pow_nonneg (by omega))
    have HQ : Hid (q = n / 256 ^ k) := hq
    have HM : Hid (m + k = 63) := hm
    clear hq
    by_cases hlt : 56 ≤ m
    · have hi0 : (0 : Int) ≤ (m : Int) := by omega
      have hi1 : (m : Int) < 64 := by omega
      have hi2 : (56 : Int) ≤ (m : Int) := by omega
      have c0 : wr.cell? ⟨w.heap.size, m, none⟩ = some (.int .u8 ((nb (pLen c n k) m).toNat : Int)) := cell8 k0 _ (by rw [pLen_len]; omega)
      have f0 : wr.frozen? ⟨w.heap.size, m, none⟩ = false := frozen_of_row _ _ _ _ _ k0
      have K0 : Hid (wr.heap[w.heap.size]? = some (.cells (r8 (pLen c n k)) 36 (0, 0))) := k0
      have K1 : Hid (wr.heap[w.heap.size + 1]? = some (.cells (r8 zb64) 36 (0, 0))) := k1
      clear k0 k1 hm
      go_wp2
      go_roundw
      case rel =>
        refine ⟨k + 1, m - 1, q / 256, by have := HM.out; omega, by have := HM.out; omega, by go_num, ?_, rfl, ?_, ?_, ?_⟩
        · rw [HQ.out]; exact div_step n k h0
        · have e : pLen c n (k + 1) = (pLen c n k).set m (UInt8.ofNat (q % 256).toNat) := by
            have h1 := HQ.out
            have h2 := HM.out
            rw [h1, show m = 63 - k by omega]
            rfl
          rw [e]
          have := set8 (w := wr) K0.out m (UInt8.ofNat (q % 256).toNat)
          rw [u8n] at this
          exact this
        · exact setOther (w := wr) K1.out _ _ (by simp)
        · exact hbl.setCell (p := ⟨w.heap.size, m, none⟩) (Nat.le_refl _) _
      case measure => simp [intOf]; omega
    · have hk8 : k = 8 := by omega
      obtain ⟨l, hl⟩ : ∃ l, l = pLen c n k := ⟨_, rfl⟩
      have hll : l.length = 64 := by rw [hl, pLen_len, hc]
      have HR : Hid (r8 l = r8 (pLen c n 8)) := by
        show r8 l = r8 (pLen c n 8)
        rw [hl, hk8]
      rw [← hl] at k0
      clear hl hk8 hm HM
      go_wp2_with (first | (refine wpList_load_row rfl 36 _ rfl w.heap.size rfl 36 _ (0, 0) _ k0 Tryd.underlying36 rfl (by rw [r8_size, hll]; exact i36) ?_) | (refine wpList_store_row rfl 36 _ _ rfl (w.heap.size + 1) (r8 l) rfl rfl 36 _ k1 (by rw [r8_size, hll]; exact i36) (by rw [r8_size, r8_size, hll]; rfl) (r8_one _) ?_))
      refine bodyPost_ret (results_cell_row rfl _ _ (w.heap.size + 1) 36 (r8 l) (0, 0) _ rfl (rowSame k1 _) Tryd.underlying36 rfl (by rw [r8_size, hll]; exact i36)) rfl ⟨by rw [HR.out], ?_⟩
      exact belowRow hbl (by omega) _
end Go.Proofs.YtfgjlfdiljlfnaaDoor
