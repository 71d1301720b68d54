/-
  The pieces of the text, as the program and as the document cut them.
-/
import Derived.Test.YtfgjlfdiljlfnaaDoorR2
import Derived.Test.YtfgjlfdiljlfnaaDoorP9
import Derived.Test.YtfgjlfdiljlfnaaDoorBack
namespace Go.Proofs.YtfgjlfdiljlfnaaDoor
open Go.RowKit
set_option linter.unusedVariables false

/-- the k-th 64 bytes. -/
def pc (p : List UInt8) (k : Nat) : List UInt8 := (p.drop (64 * k)).take 64
/-- the state behind the first k pieces. -/
def stR (p : List UInt8) : Nat → S8
  | 0 => h0
  | k + 1 => stepC ks1 (stR p k) (pc p k)
theorem stR_ok (p : List UInt8) : ∀ k, (stR p k).ok
  | 0 => h0_ok
  | k + 1 => add_ok _ _
/-- the bytes of the first k words. -/
def outB (l : List Int) : Nat → List UInt8
  | 0 => []
  | k + 1 => outB l k ++ bytesK (nth l k) 4 4
theorem outB_len (l : List Int) : ∀ k, (outB l k).length = 4 * k
  | 0 => rfl
  | k + 1 => by rw [outB, List.length_append, outB_len l k, bytesK_len]; omega
def refS (d : List UInt8) : List UInt8 := outB (stR (padT d) ((padT d).length / 64)).list 8
theorem padT_len (d : List UInt8) : (padT d).length = d.length + 1 + zN d.length + 8 := by
  rw [padT, List.length_append, padK_len, bytesK_len]
theorem padT_64 (d : List UInt8) : (padT d).length % 64 = 0 := by
  rw [padT_len]; unfold zN; omega
theorem pc_len (p : List UInt8) (k : Nat) (h : 64 * k + 64 ≤ p.length) : (pc p k).length = 64 := by simp [pc]; omega

theorem bytes4 (x : Int) : bytesK x 4 4 = fourB x := by
  simp [bytesK, fourB]
theorem outB_text (l : List Int) : ∀ k, outB l k = pText l k
  | 0 => rfl
  | k + 1 => by rw [outB, pText, outB_text l k, bytes4]

theorem pLen_tail (a : List UInt8) (ha : a.length = 56) (t0 t1 t2 t3 t4 t5 t6 t7 : UInt8) (x : Int) : pLen (a ++ [t0, t1, t2, t3, t4, t5, t6, t7]) x 8 = a ++ bytesK x 8 8 := by
  simp [pLen, ha, bytesK]
theorem zb_rep : zb64 = List.replicate 64 0 := by rfl
theorem pad_is (r : List UInt8) (h : r.length < 64) : pad r = r ++ [128] ++ List.replicate (63 - r.length) 0 := by
  unfold pad short
  rw [zb_rep, List.drop_replicate, List.set_append, if_neg (by omega), Nat.sub_self]
  obtain ⟨m, hm⟩ : ∃ m, 64 - r.length = m + 1 := ⟨63 - r.length, by omega⟩
  rw [hm, List.replicate_succ, List.set_cons_zero]
  have : 63 - r.length = m := by omega
  rw [this]; simp
theorem fold_stR (p : List UInt8) : ∀ (n : Nat) (cs : List CK), cs.length = n → (∀ k (h : k < cs.length), (cs[k]).1 = pc p k) → stR p n = sumS ks1 cs
  | 0, cs, hl, _ => by
    obtain rfl : cs = [] := List.eq_nil_of_length_eq_zero hl
    rfl
  | n + 1, cs, hl, h => by
    obtain ⟨cs', c, rfl⟩ : ∃ cs' c, cs = cs' ++ [c] := ⟨cs.dropLast, cs.getLast (by intro e; simp [e] at hl), (List.dropLast_concat_getLast _).symm⟩
    have hl' : cs'.length = n := by simpa using hl
    rw [sumS_snoc, stR, ← fold_stR p n cs' hl' (fun k hk => by have := h k (by simp; omega); rwa [List.getElem_append_left hk] at this)]
    have := h n (by simp; omega)
    rw [List.getElem_append_right (by omega)] at this
    simp [hl'] at this
    rw [← this]
theorem cks_pc (d : List UInt8) : (cks d).length = (padT d).length / 64 ∧ ∀ k (h : k < (cks d).length), ((cks d)[k]).1 = pc (padT d) k := by
  obtain ⟨q, hq⟩ : ∃ q, d.length / 64 = q := ⟨_, rfl⟩
  obtain ⟨r, hr⟩ : ∃ r, d.drop (64 * q) = r := ⟨_, rfl⟩
  have hrl : r.length = d.length % 64 := by rw [← hr, List.length_drop]; omega
  have hdl : d.length = 64 * q + r.length := by omega
  have hsplit : padT d = d.take (64 * q) ++ (r ++ [128] ++ List.replicate (zN d.length) 0 ++ bytesK (8 * (d.length : Int)) 8 8) := by
    rw [padT, padK, ← hr]
    simp only [← List.append_assoc]
    rw [List.take_append_drop]
  have htl : (d.take (64 * q)).length = 64 * q := by simp; omega
  have hpt : (padT d).length = d.length + 1 + zN d.length + 8 := padT_len d
  have hblk : ∀ k, k < q → (blk d k).1 = pc (padT d) k := by
    intro k hk
    unfold blk
    rw [mk64_of _ (by simp; omega)]
    unfold pc
    rw [padT, padK, List.append_assoc, List.append_assoc, List.drop_append_of_le_length (by omega), List.take_append_of_le_length (by simp; omega)]
  have hlast : ∀ j, pc (padT d) (q + j) = pc (r ++ [128] ++ List.replicate (zN d.length) 0 ++ bytesK (8 * (d.length : Int)) 8 8) j := by
    intro j
    unfold pc
    rw [hsplit, show 64 * (q + j) = (d.take (64 * q)).length + 64 * j by rw [htl]; omega, List.drop_append, List.drop_eq_nil_of_le (by omega), Nat.add_sub_cancel_left, List.nil_append]
  have hbl : (blks d q).length = q := by simp [blks]
  have hbg : ∀ k (h : k < (blks d q).length), ((blks d q)[k]).1 = pc (padT d) k := by
    intro k hk
    have : (blks d q)[k] = blk d k := by simp [blks]
    rw [this]
    exact hblk k (by omega)
  have hB8 : (bytesK (8 * (d.length : Int)) 8 8).length = 8 := bytesK_len _ _ _
  unfold cks
  rw [hq, hr]
  by_cases h56 : 56 ≤ r.length
  · have hz : zN d.length = 119 - r.length := by unfold zN; omega
    have hf : fin r d.length = [mk64 (pad r), mk64 (pLen zb64 (8 * (d.length : Int)) 8)] := by unfold fin; rw [if_pos h56]
    have ht : r ++ [128] ++ List.replicate (zN d.length) 0 ++ bytesK (8 * (d.length : Int)) 8 8 = pad r ++ (List.replicate 56 0 ++ bytesK (8 * (d.length : Int)) 8 8) := by
      rw [pad_is r (by omega), hz, show 119 - r.length = (63 - r.length) + 56 by omega, ← List.replicate_append_replicate]
      simp
    have hpl := pad_len r (by omega)
    have h0' : (mk64 (pad r)).1 = pc (padT d) q := by
      have := hlast 0
      rw [Nat.add_zero] at this
      rw [mk64_of _ hpl, this, ht]
      unfold pc
      rw [Nat.mul_zero, List.drop_zero, List.take_append_of_le_length (by omega), List.take_of_length_le (by omega)]
    have h1' : (mk64 (pLen zb64 (8 * (d.length : Int)) 8)).1 = pc (padT d) (q + 1) := by
      have e : pLen zb64 (8 * (d.length : Int)) 8 = List.replicate 56 0 ++ bytesK (8 * (d.length : Int)) 8 8 := pLen_tail (List.replicate 56 0) (by simp) 0 0 0 0 0 0 0 0 _
      rw [mk64_of _ (by rw [e]; simp [hB8]), hlast 1, ht, e]
      unfold pc
      rw [show 64 * 1 = (pad r).length by omega, List.drop_left, List.take_of_length_le (by simp [hB8])]
    rw [hf]
    refine ⟨by simp [hbl]; omega, fun k hk => ?_⟩
    rcases Nat.lt_or_ge k (blks d q).length with hkq | hkq
    · rw [List.getElem_append_left hkq]; exact hbg k hkq
    · rw [List.getElem_append_right hkq]
      have hk2 : k - (blks d q).length < 2 := by simp at hk; omega
      obtain ⟨m, hm⟩ : ∃ m, k - (blks d q).length = m := ⟨_, rfl⟩
      have hkm : k = q + m := by omega
      subst hkm
      match m, hm, hk2 with
      | 0, hm, _ => simp only [hm]; exact h0'
      | 1, hm, _ => simp only [hm]; exact h1'
      | m + 2, hm, h => omega
  · have hz : zN d.length = 55 - r.length := by unfold zN; omega
    have hf : fin r d.length = [mk64 (pLen (pad r) (8 * (d.length : Int)) 8)] := by unfold fin; rw [if_neg h56]
    have hpd : pad r = (r ++ [128] ++ List.replicate (55 - r.length) 0) ++ [0, 0, 0, 0, 0, 0, 0, 0] := by
      rw [pad_is r (by omega), show 63 - r.length = (55 - r.length) + 8 by omega, ← List.replicate_append_replicate]
      simp
    have ha : (r ++ [128] ++ List.replicate (55 - r.length) (0 : UInt8)).length = 56 := by simp; omega
    have e : pLen (pad r) (8 * (d.length : Int)) 8 = r ++ [128] ++ List.replicate (55 - r.length) 0 ++ bytesK (8 * (d.length : Int)) 8 8 := by
      rw [hpd]
      exact pLen_tail _ ha 0 0 0 0 0 0 0 0 _
    have h0' : (mk64 (pLen (pad r) (8 * (d.length : Int)) 8)).1 = pc (padT d) q := by
      have := hlast 0
      rw [Nat.add_zero] at this
      rw [e, mk64_of _ (by rw [List.length_append, ha, hB8]), this, hz]
      unfold pc
      rw [Nat.mul_zero, List.drop_zero, List.take_of_length_le (by rw [List.length_append, ha, hB8]; omega)]
    rw [hf]
    refine ⟨by simp [hbl]; omega, fun k hk => ?_⟩
    rcases Nat.lt_or_ge k (blks d q).length with hkq | hkq
    · rw [List.getElem_append_left hkq]; exact hbg k hkq
    · rw [List.getElem_append_right hkq]
      have hk2 : k - (blks d q).length < 1 := by simp at hk; omega
      obtain ⟨m, hm⟩ : ∃ m, k - (blks d q).length = m := ⟨_, rfl⟩
      have hkm : k = q + m := by omega
      subst hkm
      match m, hm, hk2 with
      | 0, hm, _ => simp only [hm]; exact h0'
      | m + 1, hm, h => omega
theorem ref_is (d : List UInt8) : refS d = sumB ks1 d := by
  have h := cks_pc d
  unfold refS sumB
  rw [outB_text, fold_stR (padT d) _ (cks d) h.1 h.2]
end Go.Proofs.YtfgjlfdiljlfnaaDoor
