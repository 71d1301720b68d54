/-
  What split answers, as a slice.
-/
import Derived.Test.YtffogcjlpojpdaaDoorRa
namespace Go.Proofs.YtffogcjlpojpdaaDoor
open Go.RowKit
set_option linter.unusedVariables false

theorem below_drewN {B : Nat} {a w : World} (h : Below B a w) (n : Nat) : Below B a (w.drewN n) := ⟨h.os, h.tape, h.output, h.size, h.block⟩
theorem owns_slice {w : World} {base : Nat} {v : Value} {D : List (List UInt8)} (h : w.ownsRow base 9 1 v D.length (strL D)) (hne : D ≠ []) :
    ∃ g cap, v = .slice (some ⟨g, 0, none⟩) D.length cap ∧ base ≤ g ∧ g < w.heap.size ∧ ∀ j, (hj : j < D.length) → w.cell? ⟨g, j, none⟩ = some (.string ⟨D[j].toArray⟩) := by
  have hpos : 0 < D.length := List.length_pos_iff.2 hne
  rcases h.2 with ⟨_, hz⟩ | ⟨g, cap, cur, hv, hbg, hg, hnc, hcm, hcs, htake⟩
  · simp at hz; exact absurd hz hne
  · refine ⟨g, cap, hv, hbg, (Array.getElem?_eq_some_iff.1 hg).1, fun j hj => ?_⟩
    have ht : cur.toList.take D.length = strL D := by simpa using htake
    rw [Lib.cell_of_heap hg]
    have h1 : (strL D)[j]? = some (.string ⟨D[j].toArray⟩) := by unfold strL; rw [List.getElem?_map, List.getElem?_eq_getElem hj]; rfl
    rw [← ht, List.getElem?_take_of_lt hj] at h1
    simpa using h1

theorem split_slice (s : ByteArray) (w : World) (hs : s.size ≤ 1048576) :
    Calls Tryd.prog 32 #[.string s] w fun e w' => ∃ g cap, e = .returned (.slice (some ⟨g, 0, none⟩) (splitD s.data.toList).length cap) ∧ w.heap.size ≤ g ∧ g < w'.heap.size ∧ (∀ j, (hj : j < (splitD s.data.toList).length) → w'.cell? ⟨g, j, none⟩ = some (.string ⟨(splitD s.data.toList)[j].toArray⟩)) ∧ Below w.heap.size w w' := by
  refine (split_any s w hs).mono ?_
  rintro e w' ⟨v, rfl, hrow, hb⟩
  obtain ⟨g, cap, rfl, h1, h2, h3⟩ := owns_slice hrow (splitD_ne _)
  exact ⟨g, cap, rfl, h1, h2, h3, hb⟩

theorem part_len : ∀ (l : List UInt8) (p : List UInt8), p ∈ splitD l → p.length ≤ l.length
  | [], p, h => by simp [splitD] at h; rw [h]; exact Nat.le_refl _
  | c :: l, p, h => by
    rw [splitD_cons] at h
    split at h
    · rcases List.mem_cons.1 h with rfl | h
      · simp
      · have := part_len l p h; simp; omega
    · cases hs : splitD l with
      | nil => exact absurd hs (splitD_ne l)
      | cons q qs =>
        rw [hs] at h
        rcases List.mem_cons.1 h with rfl | h
        · have := part_len l q (by rw [hs]; simp); simp; omega
        · have := part_len l p (by rw [hs]; simp [h]); simp; omega

theorem split_len : ∀ (l : List UInt8), (splitD l).length ≤ l.length + 1
  | [] => by simp [splitD]
  | c :: l => by
    have ih := split_len l
    rw [splitD_cons]
    split
    · simp; exact ih
    · cases hs : splitD l with
      | nil => exact absurd hs (splitD_ne l)
      | cons q qs => rw [hs] at ih; simp at ih ⊢; omega

end Go.Proofs.YtffogcjlpojpdaaDoor
