import Derived.Test.YtegapdmbpkfpmaaGreatDoorM01
import Derived.Lib.ItoaNum
/-
  Parts and Pres: how the two texts tell their order.
-/
namespace Go.Proofs.YtegapdmbpkfpmaaGreatDoor
set_option linter.unusedVariables false

theorem partC_eq (a b : List UInt8) : partC a b = if Lib.compareInt (kindT a) (kindT b) = 0 then (if Lib.compareInt (lenT a) (lenT b) = 0 then Lib.compareBytes (bodyT a) (bodyT b) else Lib.compareInt (lenT a) (lenT b)) else Lib.compareInt (kindT a) (kindT b) := rfl

theorem partC_nn {a b : List UInt8} (ha : numT a = true) (hb : numT b = true) : partC a b = if ((bareT a).length : Int) = (bareT b).length then Lib.compareBytes (bareT a) (bareT b) else Lib.compareInt (bareT a).length (bareT b).length := by
  rw [partC_eq]; unfold kindT lenT bodyT
  simp only [ha, hb, if_true]
  rw [if_pos (cmp_eq _)]
  by_cases h : ((bareT a).length : Int) = (bareT b).length
  · rw [if_pos (cmp_zero.2 h), if_pos h]
  · rw [if_neg (fun hh => h (cmp_zero.1 hh)), if_neg h]

theorem partC_nw {a b : List UInt8} (ha : numT a = true) (hb : numT b = false) : partC a b = -1 := by
  rw [partC_eq]; unfold kindT
  simp [ha, hb, Lib.compareInt]

theorem partC_wn {a b : List UInt8} (ha : numT a = false) (hb : numT b = true) : partC a b = 1 := by
  rw [partC_eq]; unfold kindT
  simp [ha, hb, Lib.compareInt]

theorem partC_ww {a b : List UInt8} (ha : numT a = false) (hb : numT b = false) : partC a b = Lib.compareBytes a b := by
  rw [partC_eq]; unfold kindT lenT bodyT
  simp [ha, hb, Lib.compareInt]

/-! ### the first dot -/
theorem ix_cases : ∀ (l : List UInt8), (Lib.indexByte l 46 = -1 ∧ ∀ c ∈ l, c ≠ 46) ∨ ∃ k : Nat, Lib.indexByte l 46 = k ∧ k < l.length ∧ (∀ c ∈ l.take k, c ≠ 46) ∧ l = l.take k ++ 46 :: l.drop (k + 1)
  | [] => Or.inl ⟨rfl, by simp⟩
  | b :: l => by
    unfold Lib.indexByte
    by_cases hb : b = 46
    · subst hb
      right
      exact ⟨0, by simp, by simp, by simp, by simp⟩
    · have hb' : (b == (46 : UInt8)) = false := by simpa using hb
      rw [hb']
      rcases ix_cases l with ⟨h1, h2⟩ | ⟨k, h1, h2, h3, h4⟩
      · left
        refine ⟨by rw [h1]; rfl, ?_⟩
        intro c hc
        rcases List.mem_cons.1 hc with rfl | hc
        · exact hb
        · exact h2 c hc
      · right
        refine ⟨k + 1, ?_, Nat.succ_lt_succ h2, ?_, ?_⟩
        · rw [h1]
          have : ((k : Int) == -1) = false := by simp
          rw [this]
          simp
        · intro c hc
          rw [List.take_succ_cons] at hc
          rcases List.mem_cons.1 hc with rfl | hc
          · exact hb
          · exact h3 c hc
        · rw [List.take_succ_cons, List.drop_succ_cons, List.cons_append, ← h4]

def cut1 (l : List UInt8) : List UInt8 := if Lib.indexByte l 46 = -1 then l else l.take (Lib.indexByte l 46).toNat
def cut2 (l : List UInt8) : List UInt8 := if Lib.indexByte l 46 = -1 then [] else l.drop ((Lib.indexByte l 46).toNat + 1)
def cut3 (l : List UInt8) : Bool := !decide (Lib.indexByte l 46 = -1)

theorem cut_no {l : List UInt8} (h : cut3 l = false) : splitD l = [cut1 l] := by
  have h' : Lib.indexByte l 46 = -1 := by simpa [cut3] using h
  rcases ix_cases l with ⟨h1, h2⟩ | ⟨k, h1, h2, h3, h4⟩
  · unfold cut1; rw [if_pos h1]; exact splitD_free l h2
  · omega

theorem cut_yes {l : List UInt8} (h : cut3 l = true) : splitD l = cut1 l :: splitD (cut2 l) ∧ (cut2 l).length < l.length := by
  have h' : ¬ Lib.indexByte l 46 = -1 := by simpa [cut3] using h
  rcases ix_cases l with ⟨h1, h2⟩ | ⟨k, h1, h2, h3, h4⟩
  · exact absurd h1 h'
  · unfold cut1 cut2
    rw [if_neg h', if_neg h', h1, Int.toNat_natCast]
    refine ⟨?_, by simp; omega⟩
    conv => lhs; rw [h4]
    exact splitD_dot _ _ h3

theorem cut1_len (l : List UInt8) : (cut1 l).length ≤ l.length := by
  unfold cut1; split
  · exact Nat.le_refl _
  · simp; omega
theorem cut2_len (l : List UInt8) : (cut2 l).length ≤ l.length := by
  unfold cut2; split
  · simp
  · simp

/-- what the loop over both tells -/
theorem list_step (a b : List UInt8) : listC partC (splitD a) (splitD b) =
    if partC (cut1 a) (cut1 b) = 0 then (if cut3 a = true then (if cut3 b = true then listC partC (splitD (cut2 a)) (splitD (cut2 b)) else 1) else (if cut3 b = true then -1 else 0)) else partC (cut1 a) (cut1 b) := by
  cases ha : cut3 a with
  | true =>
    rw [(cut_yes ha).1]
    cases hb : cut3 b with
    | true => rw [(cut_yes hb).1]; simp [listC]
    | false =>
      rw [cut_no hb]
      cases hs : splitD (cut2 a) with
      | nil => exact absurd hs (splitD_ne _)
      | cons x xs => simp [listC]
  | false =>
    rw [cut_no ha]
    cases hb : cut3 b with
    | true =>
      rw [(cut_yes hb).1]
      cases hs : splitD (cut2 b) with
      | nil => exact absurd hs (splitD_ne _)
      | cons x xs => simp [listC]
    | false => rw [cut_no hb]; simp [listC]

theorem pre_empty (a b : List UInt8) (h : a = [] ∨ b = []) : preC a b = Lib.compareInt b.length a.length := by
  rw [preC_eq]
  rcases h with rfl | rfl
  · cases b with
    | nil => decide
    | cons c b =>
      have : Lib.compareInt ((c :: b).length : Nat) (([] : List UInt8).length : Nat) = 1 := cmp_gt (by simp)
      rw [this]; simp [Lib.compareInt]
  · cases a with
    | nil => decide
    | cons c a =>
      have : Lib.compareInt (([] : List UInt8).length : Nat) ((c :: a).length : Nat) = -1 := cmp_lt (by simp)
      rw [this]; simp [Lib.compareInt]

theorem pre_full (a b : List UInt8) (ha : a ≠ []) (hb : b ≠ []) : preC a b = listC partC (splitD a) (splitD b) := by
  rw [preC_eq]
  have h1 : a.isEmpty = false := by simpa using ha
  have h2 : b.isEmpty = false := by simpa using hb
  rw [h1, h2, if_pos (cmp_eq _)]

/-! ### the document's way -/
def bareR : List UInt8 → List UInt8
  | c :: d :: l => if c = 48 then bareR (d :: l) else c :: d :: l
  | l => l

theorem bareR_eq : ∀ (l : List UInt8), l ≠ [] → bareR l = if bareT l = [] then [48] else bareT l
  | [], h => absurd rfl h
  | [c], _ => by
    unfold bareR bareT Lib.trimLeftB
    by_cases h : c = 48
    · subst h; simp
    · have : (c == (48 : UInt8)) = false := by simpa using h
      simp [List.dropWhile, this]
  | c :: d :: l, _ => by
    unfold bareR
    by_cases h : c = 48
    · subst h
      rw [if_pos rfl, bareR_eq (d :: l) (by simp)]
      have e : bareT (48 :: d :: l) = bareT (d :: l) := by unfold bareT Lib.trimLeftB; simp [List.dropWhile]
      rw [e]
    · rw [if_neg h]
      have h' : (c == (48 : UInt8)) = false := by simpa using h
      have e : bareT (c :: d :: l) = c :: d :: l := by unfold bareT Lib.trimLeftB; simp [List.dropWhile, h']
      rw [e]; simp

theorem bareT_head (l : List UInt8) (c : UInt8) (r : List UInt8) (h : bareT l = c :: r) : c ≠ 48 := by
  unfold bareT Lib.trimLeftB at h
  intro hc
  subst hc
  have := List.head?_dropWhile_not (p := fun x : UInt8 => x == 48) (l := l)
  rw [h] at this
  simp at this

theorem bareT_digits (l : List UInt8) (h : l.all isD = true) : (bareT l).all isD = true := by
  rw [List.all_eq_true] at h ⊢
  intro c hc
  exact h c ((List.dropWhile_sublist _).mem hc)

theorem isD_ge {c : UInt8} (h : isD c = true) : 48 ≤ c.toNat ∧ c.toNat ≤ 57 := by
  unfold isD at h; simpa using h

theorem partC_nnR {a b : List UInt8} (ha : numT a = true) (hb : numT b = true) : partC a b = if ((bareR a).length : Int) = (bareR b).length then Lib.compareBytes (bareR a) (bareR b) else Lib.compareInt (bareR a).length (bareR b).length := by
  have ha1 : a ≠ [] ∧ a.all isD = true := by simpa [numT] using ha
  have hb1 : b ≠ [] ∧ b.all isD = true := by simpa [numT] using hb
  rw [partC_nn ha hb, bareR_eq a ha1.1, bareR_eq b hb1.1]
  cases h1 : bareT a with
  | nil =>
    cases h2 : bareT b with
    | nil => decide
    | cons d r =>
      have hd := bareT_head b d r h2
      have hd2 := isD_ge (List.all_eq_true.1 (bareT_digits b hb1.2) d (by rw [h2]; simp))
      have hlt : (48 : UInt8) < d := by
        rw [UInt8.lt_iff_toNat_lt]
        have : d.toNat ≠ 48 := fun hh => hd (UInt8.toNat_inj.1 hh)
        have e : (48 : UInt8).toNat = 48 := rfl
        omega
      have n0 : (if ([] : List UInt8) = [] then [48] else ([] : List UInt8)) = [48] := if_pos rfl
      have n1 : (if d :: r = [] then [48] else d :: r) = d :: r := if_neg (by simp)
      rw [n0, n1]
      have l0 : (([] : List UInt8).length : Int) = 0 := rfl
      have l1 : (([48] : List UInt8).length : Int) = 1 := rfl
      have hl : ((d :: r).length : Int) = r.length + 1 := by simp
      rw [l0, l1, hl, if_neg (by omega), cmp_lt (show (0 : Int) < r.length + 1 by omega)]
      by_cases hr : (1 : Int) = r.length + 1
      · rw [if_pos hr]; simp [Lib.compareBytes, hlt]
      · rw [if_neg hr, cmp_lt]
        omega
  | cons d r =>
    cases h2 : bareT b with
    | nil =>
      have hd := bareT_head a d r h1
      have hd2 := isD_ge (List.all_eq_true.1 (bareT_digits a ha1.2) d (by rw [h1]; simp))
      have hlt : (48 : UInt8) < d := by
        rw [UInt8.lt_iff_toNat_lt]
        have : d.toNat ≠ 48 := fun hh => hd (UInt8.toNat_inj.1 hh)
        have e : (48 : UInt8).toNat = 48 := rfl
        omega
      have hge : ¬ d < (48 : UInt8) := by
        rw [UInt8.lt_iff_toNat_lt]
        have e : (48 : UInt8).toNat = 48 := rfl
        omega
      have n0 : (if ([] : List UInt8) = [] then [48] else ([] : List UInt8)) = [48] := if_pos rfl
      have n1 : (if d :: r = [] then [48] else d :: r) = d :: r := if_neg (by simp)
      rw [n0, n1]
      have l0 : (([] : List UInt8).length : Int) = 0 := rfl
      have l1 : (([48] : List UInt8).length : Int) = 1 := rfl
      have hl : ((d :: r).length : Int) = r.length + 1 := by simp
      rw [l0, l1, hl, if_neg (by omega), cmp_gt (show (0 : Int) < r.length + 1 by omega)]
      by_cases hr : (r.length : Int) + 1 = 1
      · rw [if_pos hr]; simp [Lib.compareBytes, hlt, hge]
      · rw [if_neg hr, cmp_gt]
        omega
    | cons e s => simp

theorem listC_end (L M : List (List UInt8)) (i : Nat) (h1 : ¬ (i < L.length ∧ i < M.length)) (h2 : i ≤ L.length) (h3 : i ≤ M.length) (h : listC partC L M = listC partC (L.drop i) (M.drop i)) :
    listC partC L M = Lib.compareInt L.length M.length := by
  rw [h]
  by_cases hL : i = L.length
  · by_cases hM : i = M.length
    · rw [List.drop_of_length_le (by omega), List.drop_of_length_le (by omega)]
      rw [show L.length = M.length by omega, cmp_eq]; rfl
    · rw [List.drop_of_length_le (show L.length ≤ i by omega), List.drop_eq_getElem_cons (show i < M.length by omega)]
      rw [cmp_lt (by omega)]; rfl
  · have hM : i = M.length := by omega
    rw [List.drop_of_length_le (show M.length ≤ i by omega), List.drop_eq_getElem_cons (show i < L.length by omega)]
    rw [cmp_gt (by omega)]; rfl

end Go.Proofs.YtegapdmbpkfpmaaGreatDoor

/-
  Reading a version: runs of bytes, numbers, parts.
-/
namespace Go.Proofs.YtegapdmbpkfpmaaGreatDoor
set_option linter.unusedVariables false

def runN (p : UInt8 → Bool) (l : List UInt8) (i : Nat) : Nat := ((l.drop i).takeWhile p).length
def subT (l : List UInt8) (i k : Nat) : List UInt8 := (l.drop i).take k

theorem tw_len (p : UInt8 → Bool) : ∀ (l : List UInt8), (l.takeWhile p).length ≤ l.length
  | [] => by simp
  | c :: l => by
    have ih := tw_len p l
    rw [List.takeWhile_cons]; split <;> simp; omega
theorem tw_at (p : UInt8 → Bool) : ∀ (l : List UInt8) (k : Nat), k < (l.takeWhile p).length → ∃ h : k < l.length, p l[k] = true
  | [], k, h => by simp at h
  | c :: l, k, h => by
    rw [List.takeWhile_cons] at h
    split at h
    · cases k with
      | zero => exact ⟨by simp, by simpa⟩
      | succ k =>
        obtain ⟨h1, h2⟩ := tw_at p l k (by simpa using h)
        exact ⟨by simp; omega, by simpa using h2⟩
    · simp at h
theorem tw_stop (p : UInt8 → Bool) : ∀ (l : List UInt8) (h : (l.takeWhile p).length < l.length), p l[(l.takeWhile p).length] = false
  | [], h => by simp at h
  | c :: l, h => by
    cases hc : p c with
    | true =>
      have e : (c :: l).takeWhile p = c :: l.takeWhile p := by rw [List.takeWhile_cons, if_pos hc]
      have h' : (l.takeWhile p).length < l.length := by rw [e] at h; simpa using h
      have := tw_stop p l h'
      simp only [e, List.length_cons, List.getElem_cons_succ]
      exact this
    | false =>
      have e : (c :: l).takeWhile p = [] := by rw [List.takeWhile_cons, if_neg (by simp [hc])]
      simp only [e, List.length_nil, List.getElem_cons_zero]
      exact hc
theorem tw_take (p : UInt8 → Bool) : ∀ (l : List UInt8), l.take (l.takeWhile p).length = l.takeWhile p
  | [] => by simp
  | c :: l => by
    have ih := tw_take p l
    rw [List.takeWhile_cons]; split <;> simp [ih]

theorem runN_le (p : UInt8 → Bool) (l : List UInt8) (i : Nat) (h : i ≤ l.length) : i + runN p l i ≤ l.length := by
  have := tw_len p (l.drop i)
  unfold runN; simp at this ⊢; omega
theorem runN_at (p : UInt8 → Bool) (l : List UInt8) (i k : Nat) (h : k < runN p l i) : ∃ h : i + k < l.length, p l[i + k] = true := by
  obtain ⟨h1, h2⟩ := tw_at p (l.drop i) k h
  simp only [List.length_drop] at h1
  exact ⟨by omega, by simpa using h2⟩
theorem runN_stop (p : UInt8 → Bool) (l : List UInt8) (i : Nat) (h : i + runN p l i < l.length) : p l[i + runN p l i] = false := by
  have h' : ((l.drop i).takeWhile p).length < (l.drop i).length := by unfold runN at h; simp at h ⊢; omega
  have := tw_stop p (l.drop i) h'
  simpa [runN] using this
theorem subT_run (p : UInt8 → Bool) (l : List UInt8) (i : Nat) : subT l i (runN p l i) = (l.drop i).takeWhile p := tw_take p (l.drop i)
/-- a place behind which p no longer holds is the run's end -/
theorem runN_eq (p : UInt8 → Bool) (l : List UInt8) (i k : Nat) (h1 : k ≤ runN p l i) (h2 : ∀ h : i + k < l.length, p l[i + k] = false) : runN p l i = k := by
  rcases Nat.lt_or_ge k (runN p l i) with h | h
  · obtain ⟨h3, h4⟩ := runN_at p l i k h
    rw [h2 h3] at h4; exact absurd h4 (by simp)
  · omega

/-! ### numbers -/
def valF (n : Int) (c : UInt8) : Int := 10 * n + ((c.toNat : Int) - 48)
def valN (l : List UInt8) : Int := l.foldl valF 0
theorem valN_snoc (l : List UInt8) (c : UInt8) : valN (l ++ [c]) = valF (valN l) c := by unfold valN; rw [List.foldl_append]; rfl
theorem fold_ge : ∀ (l : List UInt8) (n : Int), 0 ≤ n → l.all isD = true → n ≤ l.foldl valF n
  | [], n, _, _ => Int.le_refl n
  | c :: l, n, h, hd => by
    simp only [List.all_cons, Bool.and_eq_true] at hd
    have h1 := isD_ge hd.1
    have h2 : n ≤ valF n c := by unfold valF; omega
    exact Int.le_trans h2 (fold_ge l _ (by omega) hd.2)
theorem val_nn (l : List UInt8) (hd : l.all isD = true) : 0 ≤ valN l := fold_ge l 0 (by omega) hd
theorem val_prefix (a b : List UInt8) (hd : (a ++ b).all isD = true) : valN a ≤ valN (a ++ b) := by
  rw [List.all_append, Bool.and_eq_true] at hd
  unfold valN; rw [List.foldl_append]
  exact fold_ge b _ (val_nn a hd.1) hd.2

/-- errno, value, place -/
def rdNum (l : List UInt8) (i : Nat) : Int × Int × Nat :=
  if runN isD l i = 0 then (2, 0, i)
  else if 1 < runN isD l i ∧ l[i]? = some 48 then (2, 0, i)
  else if valN (subT l i (runN isD l i)) > 999999999 then (3, 0, i)
  else (0, valN (subT l i (runN isD l i)), i + runN isD l i)

/-! ### parts -/
def badZ (strict : Bool) (p : List UInt8) : Bool := strict && (p.all isD && (decide (1 < p.length) && decide (p[0]? = some 48)))
/-- errno, place -/
def rdParts (strict : Bool) (l : List UInt8) (i : Nat) : Int × Nat :=
  if runN isP l i = 0 then (2, i)
  else if badZ strict (subT l i (runN isP l i)) = true then (2, i)
  else if h : l[i + runN isP l i]? = some 46 then rdParts strict l (i + runN isP l i + 1)
  else (0, i + runN isP l i)
termination_by l.length - i
decreasing_by
  have := (List.getElem?_eq_some_iff.1 h).1
  omega
theorem rdParts_eq (strict : Bool) (l : List UInt8) (i : Nat) : rdParts strict l i =
  if runN isP l i = 0 then (2, i)
  else if badZ strict (subT l i (runN isP l i)) = true then (2, i)
  else if l[i + runN isP l i]? = some 46 then rdParts strict l (i + runN isP l i + 1)
  else (0, i + runN isP l i) := by
  rw [rdParts]
  split
  · rfl
  · split
    · rfl
    · split <;> rfl

/-! ### what a sound Pre or Build is -/
def okPart (strict : Bool) (p : List UInt8) : Bool := !p.isEmpty && p.all isP && !badZ strict p
def okParts (strict : Bool) (l : List UInt8) : Bool := l.isEmpty || (splitD l).all (okPart strict)

end Go.Proofs.YtegapdmbpkfpmaaGreatDoor

/-
  Sound parts are those that the reader takes to the end.
-/
namespace Go.Proofs.YtegapdmbpkfpmaaGreatDoor
set_option linter.unusedVariables false

theorem isP_dot {c : UInt8} (h : isP c = true) : c ≠ 46 := by
  intro e; subst e; exact absurd h (by decide)

theorem splitD_other (c : UInt8) (hc : c ≠ 46) (r : List UInt8) : ∀ (q : List UInt8), (∀ x ∈ q, x ≠ 46) → ∃ t ps, splitD (q ++ c :: r) = (q ++ c :: t) :: ps
  | [], _ => by
    rw [List.nil_append, splitD_cons, if_neg hc]
    cases h : splitD r with
    | nil => exact absurd h (splitD_ne r)
    | cons p ps => exact ⟨p, ps, rfl⟩
  | x :: q, h => by
    obtain ⟨t, ps, e⟩ := splitD_other c hc r q (fun y hy => h y (List.mem_cons_of_mem _ hy))
    rw [List.cons_append, splitD_cons, if_neg (h x (List.mem_cons_self ..)), e]
    exact ⟨t, ps, rfl⟩

theorem drop_run (l : List UInt8) (i : Nat) (p : UInt8 → Bool) : l.drop i = subT l i (runN p l i) ++ l.drop (i + runN p l i) := by
  unfold subT; rw [← List.drop_drop, List.take_append_drop]

theorem sub_all (p : UInt8 → Bool) (l : List UInt8) (i : Nat) : (subT l i (runN p l i)).all p = true := by
  rw [subT_run]; exact List.all_takeWhile

theorem sub_len (l : List UInt8) (i k : Nat) (h : i + k ≤ l.length) : (subT l i k).length = k := by
  unfold subT; simp; omega

theorem parts_iff (s : Bool) (l : List UInt8) : ∀ (n i : Nat), l.length - i = n → i ≤ l.length → (rdParts s l i = (0, l.length) ↔ (splitD (l.drop i)).all (okPart s) = true) := by
  intro n
  induction n using Nat.strongRecOn with
  | ind n ih =>
    intro i hn hi
    have hle := runN_le isP l i hi
    have hd := drop_run l i isP
    have hall := sub_all isP l i
    have hlen := sub_len l i _ hle
    have hnd : ∀ x ∈ subT l i (runN isP l i), x ≠ 46 := fun x hx => isP_dot (List.all_eq_true.1 hall x hx)
    rw [rdParts_eq]
    -- what stands behind the run
    rcases Nat.lt_or_ge (i + runN isP l i) l.length with hlt | hge
    · have hst := runN_stop isP l i hlt
      rw [List.drop_eq_getElem_cons hlt] at hd
      by_cases h46 : l[i + runN isP l i] = 46
      · rw [h46] at hd
        have hsp : splitD (l.drop i) = subT l i (runN isP l i) :: splitD (l.drop (i + runN isP l i + 1)) := by
          rw [hd]; exact splitD_dot _ _ hnd
        have hg : l[i + runN isP l i]? = some 46 := by rw [List.getElem?_eq_getElem hlt, h46]
        rw [hsp, List.all_cons, Bool.and_eq_true]
        by_cases h0 : runN isP l i = 0
        · rw [if_pos h0]
          have : subT l i (runN isP l i) = [] := List.length_eq_zero_iff.1 (by omega)
          rw [this]
          constructor
          · intro h; simp at h
          · rintro ⟨h, _⟩; simp [okPart] at h
        · rw [if_neg h0]
          by_cases hb : badZ s (subT l i (runN isP l i)) = true
          · rw [if_pos hb]
            constructor
            · intro h; simp at h
            · rintro ⟨h, _⟩; simp [okPart, hb] at h
          · rw [if_neg hb, if_pos hg]
            have hok : okPart s (subT l i (runN isP l i)) = true := by
              have h1 : (subT l i (runN isP l i)).isEmpty = false := by
                cases h : subT l i (runN isP l i) with
                | nil => rw [h] at hlen; simp at hlen; omega
                | cons c r => rfl
              have h2 : badZ s (subT l i (runN isP l i)) = false := by simpa using hb
              simp [okPart, h1, hall, h2]
            rw [ih (l.length - (i + runN isP l i + 1)) (by omega) (i + runN isP l i + 1) rfl (by omega)]
            simp [hok]
      · obtain ⟨t, ps, e⟩ := splitD_other _ h46 (l.drop (i + runN isP l i + 1)) _ hnd
        rw [← hd] at e
        have hbad : okPart s (subT l i (runN isP l i) ++ l[i + runN isP l i] :: t) = false := by
          unfold okPart
          rw [List.all_append, List.all_cons, hst]; simp
        have hg : ¬ l[i + runN isP l i]? = some 46 := by
          rw [List.getElem?_eq_getElem hlt]; simpa using h46
        rw [e, List.all_cons, hbad, if_neg hg]
        have hne : ¬ i + runN isP l i = l.length := by omega
        by_cases h0 : runN isP l i = 0
        · rw [if_pos h0]; simp
        · rw [if_neg h0]
          split <;> simp [hne]
    · have hn0 : l.drop (i + runN isP l i) = [] := List.drop_of_length_le hge
      rw [hn0, List.append_nil] at hd
      have hsp : splitD (l.drop i) = [subT l i (runN isP l i)] := by
        rw [hd]; exact splitD_free _ hnd
      have hg : ¬ l[i + runN isP l i]? = some 46 := by
        rw [List.getElem?_eq_none hge]; simp
      rw [hsp, List.all_cons, List.all_nil, Bool.and_true, if_neg hg]
      have heq : i + runN isP l i = l.length := by omega
      by_cases h0 : runN isP l i = 0
      · rw [if_pos h0]
        have : subT l i (runN isP l i) = [] := List.length_eq_zero_iff.1 (by omega)
        rw [this]
        simp [okPart]
      · rw [if_neg h0]
        have h1 : (subT l i (runN isP l i)).isEmpty = false := by
          cases h : subT l i (runN isP l i) with
          | nil => rw [h] at hlen; simp at hlen; omega
          | cons c r => rfl
        by_cases hb : badZ s (subT l i (runN isP l i)) = true
        · rw [if_pos hb]; simp [okPart, hb]
        · rw [if_neg hb]
          have h2 : badZ s (subT l i (runN isP l i)) = false := by simpa using hb
          simp [okPart, h1, hall, h2, heq]

theorem parts_ok (s : Bool) (l : List UInt8) (h : l ≠ []) : decide (rdParts s l 0 = (0, l.length)) = okParts s l := by
  have e := parts_iff s l _ 0 rfl (Nat.zero_le _)
  rw [List.drop_zero] at e
  have h1 : l.isEmpty = false := by simpa using h
  unfold okParts
  rw [h1, Bool.false_or, Bool.eq_iff_iff]
  simp only [decide_eq_true_eq]
  exact e

end Go.Proofs.YtegapdmbpkfpmaaGreatDoor

/-
  What is written is read as it is, and the other way round.
-/
namespace Go.Proofs.YtegapdmbpkfpmaaGreatDoor
set_option linter.unusedVariables false

/-! ### runs at a place -/
/-! ### numerals -/
/-! ### parts -/
theorem sub_split (l : List UInt8) (i k j : Nat) (hk : i + k < j) (hj : j ≤ l.length) (h46 : l[i + k]? = some 46) :
    subT l i (j - i) = subT l i k ++ 46 :: subT l (i + k + 1) (j - (i + k + 1)) := by
  unfold subT
  obtain ⟨hlt, e⟩ := List.getElem?_eq_some_iff.1 h46
  have h1 : j - i = k + ((j - (i + k + 1)) + 1) := by omega
  rw [h1, List.take_add, List.drop_drop, List.drop_eq_getElem_cons hlt, List.take_succ_cons, e]

theorem parts_take (s : Bool) (l : List UInt8) : ∀ (n i : Nat), l.length - i = n → i ≤ l.length → (rdParts s l i).1 = 0 →
    i < (rdParts s l i).2 ∧ (rdParts s l i).2 ≤ l.length ∧ (splitD (subT l i ((rdParts s l i).2 - i))).all (okPart s) = true := by
  intro n
  induction n using Nat.strongRecOn with
  | ind n ih =>
    intro i hn hi h
    have hle := runN_le isP l i hi
    have hall := sub_all isP l i
    have hlen := sub_len l i _ hle
    have hnd : ∀ x ∈ subT l i (runN isP l i), x ≠ 46 := fun x hx => isP_dot (List.all_eq_true.1 hall x hx)
    rw [rdParts_eq] at h ⊢
    by_cases h0 : runN isP l i = 0
    · rw [if_pos h0] at h; simp at h
    · rw [if_neg h0] at h ⊢
      by_cases hb : badZ s (subT l i (runN isP l i)) = true
      · rw [if_pos hb] at h; simp at h
      · rw [if_neg hb] at h ⊢
        have hok : okPart s (subT l i (runN isP l i)) = true := by
          have h1 : (subT l i (runN isP l i)).isEmpty = false := by
            cases h : subT l i (runN isP l i) with
            | nil => rw [h] at hlen; simp at hlen; omega
            | cons c r => rfl
          have h2 : badZ s (subT l i (runN isP l i)) = false := by simpa using hb
          simp [okPart, h1, hall, h2]
        by_cases hg : l[i + runN isP l i]? = some 46
        · rw [if_pos hg] at h ⊢
          have hlt := (List.getElem?_eq_some_iff.1 hg).1
          obtain ⟨g1, g2, g3⟩ := ih (l.length - (i + runN isP l i + 1)) (by omega) (i + runN isP l i + 1) rfl (by omega) h
          refine ⟨by omega, g2, ?_⟩
          rw [sub_split l i (runN isP l i) _ (by omega) g2 hg, splitD_dot _ _ hnd, List.all_cons, hok, g3]; rfl
        · rw [if_neg hg]
          refine ⟨by simp only; omega, hle, ?_⟩
          simp only
          rw [show i + runN isP l i - i = runN isP l i by omega, splitD_free _ hnd]
          simp [hok]

end Go.Proofs.YtegapdmbpkfpmaaGreatDoor

/-
  A whole version: read and written.
-/
namespace Go.Proofs.YtegapdmbpkfpmaaGreatDoor
set_option linter.unusedVariables false

structure Vv where
  major : Int
  minor : Int
  patch : Int
  pre : List UInt8
  build : List UInt8
/-- what may stand behind the sign c: errno, place, text -/
def optP (c : UInt8) (s : Bool) (l : List UInt8) (i : Nat) : Int × Nat × List UInt8 :=
  if l[i]? = some c then
    (if (rdParts s l (i + 1)).1 = 0 then (0, (rdParts s l (i + 1)).2, subT l (i + 1) ((rdParts s l (i + 1)).2 - (i + 1))) else ((rdParts s l (i + 1)).1, (rdParts s l (i + 1)).2, []))
  else (0, i, [])

def bound (n : Int) : Bool := decide (0 ≤ n) && decide (n ≤ 1000000000)
theorem bound_iff {n : Int} : bound n = true ↔ 0 ≤ n ∧ n ≤ 1000000000 := by unfold bound; simp
def soundV (v : Vv) : Bool := bound v.major && (bound v.minor && (bound v.patch && (okParts true v.pre && okParts false v.build)))

/-! ### written, then read -/
theorem okParts_split {s : Bool} {l : List UInt8} (h : okParts s l = true) (hne : l ≠ []) : (splitD l).all (okPart s) = true := by
  have : l.isEmpty = false := by simpa using hne
  unfold okParts at h; rw [this, Bool.false_or] at h; exact h

/-! ### read, then written -/
end Go.Proofs.YtegapdmbpkfpmaaGreatDoor
