/-
  Reading a version: runs of bytes, numbers, parts.
-/
import Derived.Test.YtffogcjlpojpdaaDoorVc
namespace Go.Proofs.YtffogcjlpojpdaaDoor
set_option linter.unusedVariables false

def runN (p : UInt8 → Bool) (l : List UInt8) (i : Nat) : Nat := ((l.drop i).takeWhile p).length
def subT (l : List UInt8) (i k : Nat) : List UInt8 := (l.drop i).take k

theorem tw_len (p : UInt8 → Bool) : ∀ (l : List UInt8), (l.takeWhile p).length ≤ l.length
  | [] => by simp
  | c :: l => by
    have ih := tw_len p l
    rw [List.takeWhile_cons]; split <;> simp; omega
theorem tw_at (p : UInt8 → Bool) : ∀ (l : List UInt8) (k : Nat), k < (l.takeWhile p).length → ∃ h : k < l.length, p l[k] = true
  | [], k, h => by simp at h
  | c :: l, k, h => by
    rw [List.takeWhile_cons] at h
    split at h
    · cases k with
      | zero => exact ⟨by simp, by simpa⟩
      | succ k =>
        obtain ⟨h1, h2⟩ := tw_at p l k (by simpa using h)
        exact ⟨by simp; omega, by simpa using h2⟩
    · simp at h
theorem tw_stop (p : UInt8 → Bool) : ∀ (l : List UInt8) (h : (l.takeWhile p).length < l.length), p l[(l.takeWhile p).length] = false
  | [], h => by simp at h
  | c :: l, h => by
    cases hc : p c with
    | true =>
      have e : (c :: l).takeWhile p = c :: l.takeWhile p := by rw [List.takeWhile_cons, if_pos hc]
      have h' : (l.takeWhile p).length < l.length := by rw [e] at h; simpa using h
      have := tw_stop p l h'
      simp only [e, List.length_cons, List.getElem_cons_succ]
      exact this
    | false =>
      have e : (c :: l).takeWhile p = [] := by rw [List.takeWhile_cons, if_neg (by simp [hc])]
      simp only [e, List.length_nil, List.getElem_cons_zero]
      exact hc
theorem tw_take (p : UInt8 → Bool) : ∀ (l : List UInt8), l.take (l.takeWhile p).length = l.takeWhile p
  | [] => by simp
  | c :: l => by
    have ih := tw_take p l
    rw [List.takeWhile_cons]; split <;> simp [ih]

theorem runN_le (p : UInt8 → Bool) (l : List UInt8) (i : Nat) (h : i ≤ l.length) : i + runN p l i ≤ l.length := by
  have := tw_len p (l.drop i)
  unfold runN; simp at this ⊢; omega
theorem runN_at (p : UInt8 → Bool) (l : List UInt8) (i k : Nat) (h : k < runN p l i) : ∃ h : i + k < l.length, p l[i + k] = true := by
  obtain ⟨h1, h2⟩ := tw_at p (l.drop i) k h
  simp only [List.length_drop] at h1
  exact ⟨by omega, by simpa using h2⟩
theorem runN_stop (p : UInt8 → Bool) (l : List UInt8) (i : Nat) (h : i + runN p l i < l.length) : p l[i + runN p l i] = false := by
  have h' : ((l.drop i).takeWhile p).length < (l.drop i).length := by unfold runN at h; simp at h ⊢; omega
  have := tw_stop p (l.drop i) h'
  simpa [runN] using this
theorem subT_run (p : UInt8 → Bool) (l : List UInt8) (i : Nat) : subT l i (runN p l i) = (l.drop i).takeWhile p := tw_take p (l.drop i)
/-- a place behind which p no longer holds is the run's end -/
theorem runN_eq (p : UInt8 → Bool) (l : List UInt8) (i k : Nat) (h1 : k ≤ runN p l i) (h2 : ∀ h : i + k < l.length, p l[i + k] = false) : runN p l i = k := by
  rcases Nat.lt_or_ge k (runN p l i) with h | h
  · obtain ⟨h3, h4⟩ := runN_at p l i k h
    rw [h2 h3] at h4; exact absurd h4 (by simp)
  · omega

/-! ### numbers -/
def valF (n : Int) (c : UInt8) : Int := 10 * n + ((c.toNat : Int) - 48)
def valN (l : List UInt8) : Int := l.foldl valF 0
theorem valN_snoc (l : List UInt8) (c : UInt8) : valN (l ++ [c]) = valF (valN l) c := by unfold valN; rw [List.foldl_append]; rfl
theorem fold_ge : ∀ (l : List UInt8) (n : Int), 0 ≤ n → l.all isD = true → n ≤ l.foldl valF n
  | [], n, _, _ => Int.le_refl n
  | c :: l, n, h, hd => by
    simp only [List.all_cons, Bool.and_eq_true] at hd
    have h1 := isD_ge hd.1
    have h2 : n ≤ valF n c := by unfold valF; omega
    exact Int.le_trans h2 (fold_ge l _ (by omega) hd.2)
theorem val_nn (l : List UInt8) (hd : l.all isD = true) : 0 ≤ valN l := fold_ge l 0 (by omega) hd
theorem val_prefix (a b : List UInt8) (hd : (a ++ b).all isD = true) : valN a ≤ valN (a ++ b) := by
  rw [List.all_append, Bool.and_eq_true] at hd
  unfold valN; rw [List.foldl_append]
  exact fold_ge b _ (val_nn a hd.1) hd.2

/-- errno, value, place -/
def rdNum (l : List UInt8) (i : Nat) : Int × Int × Nat :=
  if runN isD l i = 0 then (2, 0, i)
  else if 1 < runN isD l i ∧ l[i]? = some 48 then (2, 0, i)
  else if valN (subT l i (runN isD l i)) > 999999999 then (3, 0, i)
  else (0, valN (subT l i (runN isD l i)), i + runN isD l i)

/-! ### parts -/
def badZ (strict : Bool) (p : List UInt8) : Bool := strict && (p.all isD && (decide (1 < p.length) && decide (p[0]? = some 48)))
/-- errno, place -/
def rdParts (strict : Bool) (l : List UInt8) (i : Nat) : Int × Nat :=
  if runN isP l i = 0 then (2, i)
  else if badZ strict (subT l i (runN isP l i)) = true then (2, i)
  else if h : l[i + runN isP l i]? = some 46 then rdParts strict l (i + runN isP l i + 1)
  else (0, i + runN isP l i)
termination_by l.length - i
decreasing_by
  have := (List.getElem?_eq_some_iff.1 h).1
  omega
theorem rdParts_eq (strict : Bool) (l : List UInt8) (i : Nat) : rdParts strict l i =
  if runN isP l i = 0 then (2, i)
  else if badZ strict (subT l i (runN isP l i)) = true then (2, i)
  else if l[i + runN isP l i]? = some 46 then rdParts strict l (i + runN isP l i + 1)
  else (0, i + runN isP l i) := by
  rw [rdParts]
  split
  · rfl
  · split
    · rfl
    · split <;> rfl

/-! ### what a sound Pre or Build is -/
def okPart (strict : Bool) (p : List UInt8) : Bool := !p.isEmpty && p.all isP && !badZ strict p
def okParts (strict : Bool) (l : List UInt8) : Bool := l.isEmpty || (splitD l).all (okPart strict)

end Go.Proofs.YtffogcjlpojpdaaDoor
