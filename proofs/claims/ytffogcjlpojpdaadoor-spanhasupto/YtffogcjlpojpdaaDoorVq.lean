/-
  Sound parts are those that the reader takes to the end.
-/
import Derived.Test.YtffogcjlpojpdaaDoorVp
namespace Go.Proofs.YtffogcjlpojpdaaDoor
set_option linter.unusedVariables false

theorem isP_dot {c : UInt8} (h : isP c = true) : c ≠ 46 := by
  intro e; subst e; exact absurd h (by decide)

theorem splitD_other (c : UInt8) (hc : c ≠ 46) (r : List UInt8) : ∀ (q : List UInt8), (∀ x ∈ q, x ≠ 46) → ∃ t ps, splitD (q ++ c :: r) = (q ++ c :: t) :: ps
  | [], _ => by
    rw [List.nil_append, splitD_cons, if_neg hc]
    cases h : splitD r with
    | nil => exact absurd h (splitD_ne r)
    | cons p ps => exact ⟨p, ps, rfl⟩
  | x :: q, h => by
    obtain ⟨t, ps, e⟩ := splitD_other c hc r q (fun y hy => h y (List.mem_cons_of_mem _ hy))
    rw [List.cons_append, splitD_cons, if_neg (h x (List.mem_cons_self ..)), e]
    exact ⟨t, ps, rfl⟩

theorem drop_run (l : List UInt8) (i : Nat) (p : UInt8 → Bool) : l.drop i = subT l i (runN p l i) ++ l.drop (i + runN p l i) := by
  unfold subT; rw [← List.drop_drop, List.take_append_drop]

theorem sub_all (p : UInt8 → Bool) (l : List UInt8) (i : Nat) : (subT l i (runN p l i)).all p = true := by
  rw [subT_run]; exact List.all_takeWhile

theorem sub_len (l : List UInt8) (i k : Nat) (h : i + k ≤ l.length) : (subT l i k).length = k := by
  unfold subT; simp; omega

theorem parts_iff (s : Bool) (l : List UInt8) : ∀ (n i : Nat), l.length - i = n → i ≤ l.length → (rdParts s l i = (0, l.length) ↔ (splitD (l.drop i)).all (okPart s) = true) := by
  intro n
  induction n using Nat.strongRecOn with
  | ind n ih =>
    intro i hn hi
    have hle := runN_le isP l i hi
    have hd := drop_run l i isP
    have hall := sub_all isP l i
    have hlen := sub_len l i _ hle
    have hnd : ∀ x ∈ subT l i (runN isP l i), x ≠ 46 := fun x hx => isP_dot (List.all_eq_true.1 hall x hx)
    rw [rdParts_eq]
    -- what stands behind the run
    rcases Nat.lt_or_ge (i + runN isP l i) l.length with hlt | hge
    · have hst := runN_stop isP l i hlt
      rw [List.drop_eq_getElem_cons hlt] at hd
      by_cases h46 : l[i + runN isP l i] = 46
      · rw [h46] at hd
        have hsp : splitD (l.drop i) = subT l i (runN isP l i) :: splitD (l.drop (i + runN isP l i + 1)) := by
          rw [hd]; exact splitD_dot _ _ hnd
        have hg : l[i + runN isP l i]? = some 46 := by rw [List.getElem?_eq_getElem hlt, h46]
        rw [hsp, List.all_cons, Bool.and_eq_true]
        by_cases h0 : runN isP l i = 0
        · rw [if_pos h0]
          have : subT l i (runN isP l i) = [] := List.length_eq_zero_iff.1 (by omega)
          rw [this]
          constructor
          · intro h; simp at h
          · rintro ⟨h, _⟩; simp [okPart] at h
        · rw [if_neg h0]
          by_cases hb : badZ s (subT l i (runN isP l i)) = true
          · rw [if_pos hb]
            constructor
            · intro h; simp at h
            · rintro ⟨h, _⟩; simp [okPart, hb] at h
          · rw [if_neg hb, if_pos hg]
            have hok : okPart s (subT l i (runN isP l i)) = true := by
              have h1 : (subT l i (runN isP l i)).isEmpty = false := by
                cases h : subT l i (runN isP l i) with
                | nil => rw [h] at hlen; simp at hlen; omega
                | cons c r => rfl
              have h2 : badZ s (subT l i (runN isP l i)) = false := by simpa using hb
              simp [okPart, h1, hall, h2]
            rw [ih (l.length - (i + runN isP l i + 1)) (by omega) (i + runN isP l i + 1) rfl (by omega)]
            simp [hok]
      · obtain ⟨t, ps, e⟩ := splitD_other _ h46 (l.drop (i + runN isP l i + 1)) _ hnd
        rw [← hd] at e
        have hbad : okPart s (subT l i (runN isP l i) ++ l[i + runN isP l i] :: t) = false := by
          unfold okPart
          rw [List.all_append, List.all_cons, hst]; simp
        have hg : ¬ l[i + runN isP l i]? = some 46 := by
          rw [List.getElem?_eq_getElem hlt]; simpa using h46
        rw [e, List.all_cons, hbad, if_neg hg]
        have hne : ¬ i + runN isP l i = l.length := by omega
        by_cases h0 : runN isP l i = 0
        · rw [if_pos h0]; simp
        · rw [if_neg h0]
          split <;> simp [hne]
    · have hn0 : l.drop (i + runN isP l i) = [] := List.drop_of_length_le hge
      rw [hn0, List.append_nil] at hd
      have hsp : splitD (l.drop i) = [subT l i (runN isP l i)] := by
        rw [hd]; exact splitD_free _ hnd
      have hg : ¬ l[i + runN isP l i]? = some 46 := by
        rw [List.getElem?_eq_none hge]; simp
      rw [hsp, List.all_cons, List.all_nil, Bool.and_true, if_neg hg]
      have heq : i + runN isP l i = l.length := by omega
      by_cases h0 : runN isP l i = 0
      · rw [if_pos h0]
        have : subT l i (runN isP l i) = [] := List.length_eq_zero_iff.1 (by omega)
        rw [this]
        simp [okPart]
      · rw [if_neg h0]
        have h1 : (subT l i (runN isP l i)).isEmpty = false := by
          cases h : subT l i (runN isP l i) with
          | nil => rw [h] at hlen; simp at hlen; omega
          | cons c r => rfl
        by_cases hb : badZ s (subT l i (runN isP l i)) = true
        · rw [if_pos hb]; simp [okPart, hb]
        · rw [if_neg hb]
          have h2 : badZ s (subT l i (runN isP l i)) = false := by simpa using hb
          simp [okPart, h1, hall, h2, heq]

theorem parts_ok (s : Bool) (l : List UInt8) (h : l ≠ []) : decide (rdParts s l 0 = (0, l.length)) = okParts s l := by
  have e := parts_iff s l _ 0 rfl (Nat.zero_le _)
  rw [List.drop_zero] at e
  have h1 : l.isEmpty = false := by simpa using h
  unfold okParts
  rw [h1, Bool.false_or, Bool.eq_iff_iff]
  simp only [decide_eq_true_eq]
  exact e

end Go.Proofs.YtffogcjlpojpdaaDoor
