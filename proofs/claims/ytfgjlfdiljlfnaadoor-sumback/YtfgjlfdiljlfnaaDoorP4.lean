/-
  The walk of spread.
-/
import Derived.Test.YtfgjlfdiljlfnaaDoorP3
import Derived.Deep.RegionHeld3
import Derived.Deep.DrawnRows
import Derived.Laws.CopyOwn
namespace Go.Proofs.YtfgjlfdiljlfnaaDoor
open Go.RowKit
set_option linter.unusedVariables false

/-- the word of round k, out of those ahead. -/
def pNew (l : List Int) (k : Nat) : Int := (((nth l (k - 16) + bits BinOp.xor IntKind.u32 (bits BinOp.xor IntKind.u32 (pRot (nth l (k - 15)) 7) (pRot (nth l (k - 15)) 18)) (nth l (k - 15) / 8)) % 4294967296 + nth l (k - 7)) % 4294967296 + bits BinOp.xor IntKind.u32 (bits BinOp.xor IntKind.u32 (pRot (nth l (k - 2)) 17) (pRot (nth l (k - 2)) 19)) (nth l (k - 2) / 1024)) % 4294967296
def sp0 (c : List Int) : List Int := c ++ List.replicate 48 0
def pSp (c : List Int) : Nat → List Int
  | 0 => sp0 c
  | n + 1 => (pSp c n).set (16 + n) (pNew (pSp c n) (16 + n))
theorem pSp_len (c : List Int) (hc : c.length = 16) : ∀ n, (pSp c n).length = 64
  | 0 => by simp [pSp, sp0, hc]
  | n + 1 => by simp [pSp, pSp_len c hc n]
theorem pSp_ok (c : List Int) (hcw : ∀ x ∈ c, 0 ≤ x ∧ x < 4294967296) : ∀ n, ∀ x ∈ pSp c n, 0 ≤ x ∧ x < 4294967296
  | 0 => by
    intro x hx
    simp [pSp, sp0] at hx
    rcases hx with hx | hx
    · exact hcw x hx
    · omega
  | n + 1 => by
    intro x hx
    have := List.mem_or_eq_of_mem_set hx
    rcases this with h | h
    · exact pSp_ok c hcw n x h
    · rw [h]; exact ⟨Int.emod_nonneg _ (by omega), Int.emod_lt_of_pos _ (by omega)⟩
theorem nth_ok (l : List Int) (h : ∀ x ∈ l, 0 ≤ x ∧ x < 4294967296) (k : Nat) : 0 ≤ nth l k ∧ nth l k < 4294967296 := by
  unfold nth
  by_cases hk : k < l.length
  · rw [show l.getD k 0 = l[k] from by simp [hk]]; exact h _ (List.getElem_mem hk)
  · rw [show l.getD k 0 = 0 from by simp [List.getElem?_eq_none (Nat.le_of_not_lt hk)]]; omega
theorem wr64 (n : Int) (h0 : -9223372036854775808 ≤ n) (h1 : n ≤ 9223372036854775807) : IntKind.i64.wrap n = n := by rw [IntKind.wrap_i64]; omega
theorem keepS {W : World} {g k a : Nat} {v u : Value} (h : W.cell? ⟨g, a, none⟩ = some v) (hne : a ≠ k) : (W.setCell ⟨g, k, none⟩ u).drew.drew.cell? ⟨g, a, none⟩ = some v := by
  show (W.setCell ⟨g, k, none⟩ u).cell? ⟨g, a, none⟩ = some v
  rw [World.cell?_setCell_other W _ _ _ (by intro e; cases e; exact hne rfl)]
  exact h
theorem sp_start (c : List Int) (hc : c.length = 16) : ((r32 z64).toList.take 0 ++ (r32 c).toList ++ (r32 z64).toList.drop (0 + (r32 c).toList.length)).toArray = r32 (pSp c 0) := by
  show _ = r32 (sp0 c)
  unfold r32 z64 sp0
  simp [hc]

set_option maxHeartbeats 3000000 in
set_option maxRecDepth 100000 in
theorem spread_any (c : List Int) (hc : c.length = 16) (hcw : ∀ x ∈ c, 0 ≤ x ∧ x < 4294967296) (w : World) :
    Calls Tryd.prog 19 #[.agg (r32 c)] w fun e w' => e = .returned (.agg (r32 (pSp c 48))) ∧ Below w.heap.size w w' := by
  go_enter Tryd.func19, Tryd.ntmps19
  go_wp2
  obtain ⟨W, hW⟩ : ∃ W, ((w.alloc (Obj.cells (r32 c) 42)).alloc (Obj.cells (r32 z64) 40)).alloc (Obj.cells (r32 z64) 40) = W := ⟨_, rfl⟩
  obtain ⟨h0, h1, h2, hb⟩ := blocks3 w _ _ _ W hW
  change Code.wp _ _ _ _ (((w.alloc (Obj.cells (r32 c) 42)).alloc (Obj.cells (r32 z64) 40)).alloc (Obj.cells (r32 z64) 40))
  rw [hW]
  clear hW
  have hcp := run_copy_row (P := Tryd.prog) W.drew 67 67 3 28 (w.heap.size + 1 + 1) 0 64 64 ⟨w.heap.size, 0, none⟩ 16 16 (r32 z64) 40 (r32 c).toList Tryd.underlying67 (by kernel_rfl) h2 (by simp [r32, hc]) (by
    intro j v hj
    have hj2 : (r32 c)[j]? = some v := by simpa using hj
    show W.cell? _ = _
    have e : (⟨w.heap.size, 0, none⟩ : Addr).add j = ⟨w.heap.size, j, none⟩ := by rw [Addr.add_mid]; simp
    rw [e, cell_of_row _ _ _ _ _ _ h0]
    exact hj2) (by simp [r32, z64, hc]) (by intro v hv; have := r32_one c; rw [Array.all_eq_true_iff_forall_mem] at this; exact this v (by simpa using hv))
  rw [sp_start c hc] at hcp
  have hgi : goInt (r32 c).toList.length = .int .i64 16 := by simp [r32, hc, goInt]
  rw [hgi] at hcp
  obtain ⟨W2, hW2⟩ : ∃ W2, W.drew.setRow (w.heap.size + 1 + 1) (r32 (pSp c 0)) = W2 := ⟨_, rfl⟩
  have k1 : W2.heap[w.heap.size + 1]? = some (.cells (r32 z64) 40 (0, 0)) := by rw [← hW2]; exact rowOther (w := W.drew) h1 _ (by omega)
  have k2 : W2.heap[w.heap.size + 1 + 1]? = some (.cells (r32 (pSp c 0)) 40 (0, 0)) := by rw [← hW2]; exact rowSame (w := W.drew) h2 _
  have kb : Below w.heap.size w W2 := by rw [← hW2]; exact belowRow hb.drew (by omega) _
  rw [hW2] at hcp
  clear hW2 h0 h1 h2 hb
  go_region
  go_wp2
  clear hcp
  go_loopw [4] (fun i wr => ∃ n k : Nat, n ≤ 48 ∧ k = 16 + n ∧ i = .int .i64 k ∧ wr.heap[w.heap.size + 1]? = some (.cells (r32 z64) 40 (0, 0)) ∧ wr.heap[w.heap.size + 1 + 1]? = some (.cells (r32 (pSp c n)) 40 (0, 0)) ∧ Below w.heap.size w wr) (fun i _ => 64 - (intOf i).toNat)
  case atStart => exact ⟨0, 16, by omega, rfl, rfl, k1, k2, kb⟩
  case round =>
    obtain ⟨n, k, hn, hkn, rfl, g1, g2, hbl⟩ := hrel
    clear k1 k2 kb
    have HK : Hid (k = 16 + n) := hkn
    have hk16 : 16 ≤ k := by omega
    have hk64 : k ≤ 64 := by omega
    clear hkn
    obtain ⟨l, hl⟩ : ∃ l, l = pSp c n := ⟨_, rfl⟩
    have hll : l.length = 64 := by rw [hl]; exact pSp_len c hc n
    have HL : Hid (l = pSp c n) := hl
    have hlw : ∀ x ∈ l, 0 ≤ x ∧ x < 4294967296 := by rw [hl]; exact pSp_ok c hcw n
    have x15 := nth_ok l hlw (k - 15)
    have x2 := nth_ok l hlw (k - 2)
    have x16 := nth_ok l hlw (k - 16)
    have x7 := nth_ok l hlw (k - 7)
    clear hlw
    rw [← hl] at g2
    clear hl
    by_cases hlt : k < 64
    · have hi0 : (0 : Int) ≤ (k : Int) := by omega
      have hi1 : (k : Int) < 64 := by omega
      have hi2 : (0 : Int) ≤ (k : Int) - 15 := by omega
      have hi3 : (0 : Int) ≤ (k : Int) - 2 := by omega
      have hi4 : (0 : Int) ≤ (k : Int) - 16 := by omega
      have hi5 : (0 : Int) ≤ (k : Int) - 7 := by omega
      have hj2 : (k : Int) - 15 < 64 := by omega
      have hj3 : (k : Int) - 2 < 64 := by omega
      have hj4 : (k : Int) - 16 < 64 := by omega
      have hj5 : (k : Int) - 7 < 64 := by omega
      have hm2 : (2 : Int) ≤ (k : Int) := by omega
      have hm7 : (7 : Int) ≤ (k : Int) := by omega
      have hm15 : (15 : Int) ≤ (k : Int) := by omega
      have hm16 : (16 : Int) ≤ (k : Int) := by omega
      have t16 : ((k : Int) - 16).toNat = k - 16 := by omega
      have t7 : ((k : Int) - 7).toNat = k - 7 := by omega
      have c15 : wr.cell? ⟨w.heap.size + 1 + 1, k - 15, none⟩ = some (.int .u32 (nth l (k - 15))) := cell32 g2 _ (by omega)
      have c2 : wr.cell? ⟨w.heap.size + 1 + 1, k - 2, none⟩ = some (.int .u32 (nth l (k - 2))) := cell32 g2 _ (by omega)
      have c16 : wr.cell? ⟨w.heap.size + 1 + 1, k - 16, none⟩ = some (.int .u32 (nth l (k - 16))) := cell32 g2 _ (by omega)
      have c7 : wr.cell? ⟨w.heap.size + 1 + 1, k - 7, none⟩ = some (.int .u32 (nth l (k - 7))) := cell32 g2 _ (by omega)
      have ck : wr.cell? ⟨w.heap.size + 1 + 1, k, none⟩ = some (.int .u32 (nth l k)) := cell32 g2 _ (by omega)
      have f0 : wr.frozen? ⟨w.heap.size + 1 + 1, k, none⟩ = false := frozen_of_row _ _ _ _ _ g2
      have G1 : Hid (wr.heap[w.heap.size + 1]? = some (.cells (r32 z64) 40 (0, 0))) := g1
      have G2 : Hid (wr.heap[w.heap.size + 1 + 1]? = some (.cells (r32 l) 40 (0, 0))) := g2
      clear g1 g2
      have w16 : IntKind.i64.wrap ((k : Int) - 16) = (k : Int) - 16 := wr64 _ (by omega) (by omega)
      have w7 : IntKind.i64.wrap ((k : Int) - 7) = (k : Int) - 7 := wr64 _ (by omega) (by omega)
      go_wp2
      go_region
      go_wp2
      go_region_held3 (fun w' => w'.cell? ⟨w.heap.size + 1 + 1, k - 16, none⟩ = some (.int .u32 (nth l (k - 16))) ∧ w'.cell? ⟨w.heap.size + 1 + 1, k - 7, none⟩ = some (.int .u32 (nth l (k - 7)))) ((first | exact ⟨c16, c7⟩ | exact ⟨keepS c16 (by omega), keepS c7 (by omega)⟩ | go_keep)) (first | (go_at_call 33; refine (rot_any _ _ _ (by omega) (by omega) (by simp)).mono ?_; rintro e w' ⟨rfl, rfl⟩))
      all_goals go_wp2
      all_goals
        go_roundw
        case rel =>
          refine ⟨n + 1, k + 1, by have := HK.out; omega, by have := HK.out; omega, by go_num, ?_, ?_, ?_⟩
          · exact setOther (w := wr) G1.out _ _ (by simp)
          · have e : pSp c (n + 1) = l.set k (pNew l k) := by
              have h1 := HL.out
              have h2 := HK.out
              subst h1
              subst h2
              rfl
            rw [e]
            exact set32 (w := wr) G2.out k (pNew l k)
          · exact ((hbl.setCell (p := ⟨w.heap.size + 1 + 1, k, none⟩) (by simp; omega) _).drew).drew
        case measure => simp [intOf]; omega
    · have hn48 : n = 48 := by have := HK.out; omega
      subst hn48
      have HR : Hid (r32 l = r32 (pSp c 48)) := by
        show r32 l = r32 (pSp c 48)
        rw [HL.out]
      clear HL
      go_wp2_with (first | (refine wpList_load_row rfl 40 _ rfl (w.heap.size + 1 + 1) rfl 40 _ (0, 0) _ g2 Tryd.underlying40 rfl (by rw [r32_size, hll]; exact i40) ?_) | (refine wpList_store_row rfl 40 _ _ rfl (w.heap.size + 1) (r32 l) rfl rfl 40 _ g1 (by rw [r32_size, hll]; exact i40) (by rw [r32_size, r32_size, hll]; rfl) (r32_one _) ?_))
      refine bodyPost_ret (results_cell_row rfl _ _ (w.heap.size + 1) 40 (r32 l) (0, 0) _ rfl (rowSame g1 _) Tryd.underlying40 rfl (by rw [r32_size, hll]; exact i40)) rfl ⟨by rw [HR.out], ?_⟩
      exact belowRow hbl (by omega) _
end Go.Proofs.YtfgjlfdiljlfnaaDoor
