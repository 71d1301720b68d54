/-
  The least version, the next one.
-/
import Derived.Test.YtffogcjlpojpdaaDoorVm
namespace Go.Proofs.YtffogcjlpojpdaaDoor
set_option linter.unusedVariables false

theorem cmp_lt {x y : Int} (h : x < y) : Lib.compareInt x y = -1 := by unfold Lib.compareInt; rw [if_pos h]
theorem cmp_gt {x y : Int} (h : y < x) : Lib.compareInt x y = 1 := by unfold Lib.compareInt; rw [if_neg (by omega), if_pos h]
theorem cmp_eq (x : Int) : Lib.compareInt x x = 0 := good_int.self x
theorem cmp_zero {x y : Int} : Lib.compareInt x y = 0 ↔ x = y := by unfold Lib.compareInt; repeat' split
                                                                    all_goals omega
theorem cmp_le {x y : Int} : Lib.compareInt x y ≤ 0 ↔ x ≤ y := by unfold Lib.compareInt; repeat' split
                                                                  all_goals omega

theorem lex_le {α : Type} {c d : α → α → Int} {a b : α} (h1 : c a b ≤ 0) (h2 : c a b = 0 → d a b ≤ 0) : lexC c d a b ≤ 0 := by
  unfold lexC; split
  · exact h2 ‹_›
  · exact h1

theorem kind_nn (p : List UInt8) : 0 ≤ kindT p := by unfold kindT; split <;> decide
theorem len_nn (p : List UInt8) : 0 ≤ lenT p := by unfold lenT; split <;> omega
theorem kind0 : kindT [48] = 0 := by decide
theorem len0 : lenT [48] = 0 := by decide
theorem body0 : bodyT [48] = [] := by decide

theorem part_zero (p : List UInt8) : partC [48] p ≤ 0 := by
  unfold partC
  refine lex_le ?_ fun h => lex_le ?_ fun h2 => ?_
  · show Lib.compareInt (kindT [48]) (kindT p) ≤ 0
    rw [cmp_le, kind0]; exact kind_nn p
  · show Lib.compareInt (lenT [48]) (lenT p) ≤ 0
    rw [cmp_le, len0]; exact len_nn p
  · show Lib.compareBytes (bodyT [48]) (bodyT p) ≤ 0
    rw [body0]
    cases bodyT p <;> simp [Lib.compareBytes]

theorem pre_zero (l : List UInt8) : preC [48] l ≤ 0 := by
  unfold preC
  refine lex_le ?_ fun h => ?_
  · show Lib.compareInt 0 _ ≤ 0
    rw [cmp_le]; split <;> decide
  · show listC partC (splitD [48]) (splitD l) ≤ 0
    have e : splitD [48] = [[48]] := by decide
    rw [e]
    cases h : splitD l with
    | nil => exact absurd h (splitD_ne l)
    | cons q qs =>
      unfold listC; split
      · cases qs <;> simp [listC]
      · exact part_zero q

theorem ver_least (v : V) (h1 : 0 ≤ v.major) (h2 : 0 ≤ v.minor) (h3 : 0 ≤ v.patch) : verC ⟨0, 0, 0, [48]⟩ v ≤ 0 := by
  unfold verC
  refine lex_le ?_ fun _ => lex_le ?_ fun _ => lex_le ?_ fun _ => ?_
  · exact cmp_le.2 h1
  · exact cmp_le.2 h2
  · exact cmp_le.2 h3
  · exact pre_zero v.pre

theorem ver_bare : verC ⟨0, 0, 0, [48]⟩ ⟨0, 0, 0, []⟩ = -1 := by decide

theorem listC_app {α : Type} {c : α → α → Int} (h : Good c) (x : α) (r : List α) : ∀ l, listC c l (l ++ x :: r) = -1
  | [] => rfl
  | a :: l => by rw [List.cons_append]; unfold listC; rw [if_pos (h.self a)]; exact listC_app h x r l

theorem list_between : ∀ (L K : List (List UInt8)), listC partC L K < 0 → listC partC K (L ++ [[48]]) < 0 → False
  | [], [], h, _ => by simp [listC] at h
  | [], k :: ks, _, h => by
    have h1 := good_part.anti [48] k
    have h2 := part_zero k
    rw [List.nil_append] at h
    unfold listC at h
    split at h
    · cases ks <;> simp [listC] at h
    · omega
  | a :: L, [], h, _ => by simp [listC] at h
  | a :: L, k :: K, h, h' => by
    have h1 := good_part.anti a k
    rw [List.cons_append] at h'
    unfold listC at h h'
    by_cases e : partC a k = 0
    · rw [if_pos e] at h
      rw [if_pos (by omega)] at h'
      exact list_between L K h h'
    · rw [if_neg e] at h
      rw [if_neg (by omega)] at h'
      omega

def nextV (v : V) : V := if v.pre = [] then ⟨v.major, v.minor, if v.patch < 4611686018427387904 then v.patch + 1 else v.patch, [48]⟩ else ⟨v.major, v.minor, v.patch, v.pre ++ [46, 48]⟩

theorem verC_eq (a b : V) : verC a b = if Lib.compareInt a.major b.major = 0 then (if Lib.compareInt a.minor b.minor = 0 then (if Lib.compareInt a.patch b.patch = 0 then preC a.pre b.pre else Lib.compareInt a.patch b.patch) else Lib.compareInt a.minor b.minor) else Lib.compareInt a.major b.major := rfl
theorem preC_eq (a b : List UInt8) : preC a b = if Lib.compareInt (if a.isEmpty then 1 else 0) (if b.isEmpty then 1 else 0) = 0 then listC partC (splitD a) (splitD b) else Lib.compareInt (if a.isEmpty then 1 else 0) (if b.isEmpty then 1 else 0) := rfl

theorem next_behind (v : V) (h : v.patch < 4611686018427387904) : verC v (nextV v) = -1 := by
  unfold nextV
  by_cases e : v.pre = []
  · rw [if_pos e, if_pos h, verC_eq]
    simp only
    have h3 : Lib.compareInt v.patch (v.patch + 1) = -1 := cmp_lt (by omega)
    rw [if_pos (cmp_eq _), if_pos (cmp_eq _), if_neg (by omega), h3]
  · rw [if_neg e, verC_eq]
    simp only
    rw [if_pos (cmp_eq _), if_pos (cmp_eq _), if_pos (cmp_eq _), preC_eq]
    have e1 : v.pre.isEmpty = false := by simpa using e
    have e2 : (v.pre ++ [46, 48]).isEmpty = false := by simp
    rw [e1, e2, if_pos (cmp_eq _), splitD_app]
    exact listC_app good_part [48] [] _

theorem pre_last (l : List UInt8) : 0 ≤ preC [] l := by
  rw [preC_eq]
  cases l with
  | nil => decide
  | cons c l => exact (by decide : (0:Int) ≤ Lib.compareInt 1 0)

theorem none_between (v w : V) (h : v.patch < 4611686018427387904) (hx : verC v w < 0) (hy : verC w (nextV v) < 0) : False := by
  unfold nextV at hy
  by_cases e : v.pre = []
  · rw [if_pos e, if_pos h, verC_eq] at hy
    rw [verC_eq] at hx
    simp only at hy
    have a1 := good_int.anti v.major w.major
    have a2 := good_int.anti v.minor w.minor
    by_cases c1 : Lib.compareInt v.major w.major = 0
    · rw [if_pos c1] at hx
      rw [if_pos (by omega)] at hy
      by_cases c2 : Lib.compareInt v.minor w.minor = 0
      · rw [if_pos c2] at hx
        rw [if_pos (by omega)] at hy
        have p0 := pre_last w.pre
        rw [e] at hx
        have p1 := pre_zero w.pre
        have p2 := good_pre.anti [48] w.pre
        by_cases c3 : Lib.compareInt v.patch w.patch = 0
        · rw [if_pos c3] at hx; omega
        · rw [if_neg c3] at hx
          have l1 : v.patch ≤ w.patch := cmp_le.1 (by omega)
          have l2 : v.patch ≠ w.patch := fun hh => c3 (cmp_zero.2 hh)
          by_cases c4 : Lib.compareInt w.patch (v.patch + 1) = 0
          · rw [if_pos c4] at hy; omega
          · rw [if_neg c4] at hy
            have l3 : w.patch ≤ v.patch + 1 := cmp_le.1 (by omega)
            have l4 : w.patch ≠ v.patch + 1 := fun hh => c4 (cmp_zero.2 hh)
            omega
      · rw [if_neg c2] at hx
        rw [if_neg (by omega)] at hy
        omega
    · rw [if_neg c1] at hx
      rw [if_neg (by omega)] at hy
      omega
  · rw [if_neg e, verC_eq] at hy
    rw [verC_eq] at hx
    simp only at hy
    have a1 := good_int.anti v.major w.major
    have a2 := good_int.anti v.minor w.minor
    have a3 := good_int.anti v.patch w.patch
    by_cases c1 : Lib.compareInt v.major w.major = 0
    · rw [if_pos c1] at hx
      rw [if_pos (by omega)] at hy
      by_cases c2 : Lib.compareInt v.minor w.minor = 0
      · rw [if_pos c2] at hx
        rw [if_pos (by omega)] at hy
        by_cases c3 : Lib.compareInt v.patch w.patch = 0
        · rw [if_pos c3] at hx
          rw [if_pos (by omega)] at hy
          have e1 : v.pre.isEmpty = false := by simpa using e
          have e2 : (v.pre ++ [46, 48]).isEmpty = false := by simp
          rw [preC_eq, e1] at hx
          rw [preC_eq, e2] at hy
          cases hw : w.pre.isEmpty with
          | true =>
            rw [hw] at hy
            have hc : Lib.compareInt (if true = true then 1 else 0) (if false = true then 1 else 0) = 1 := by decide
            rw [hc] at hy
            simp at hy
          | false =>
            rw [hw] at hx hy
            rw [if_pos (cmp_eq _)] at hx hy
            rw [splitD_app] at hy
            exact list_between _ _ hx hy
        · rw [if_neg c3] at hx
          rw [if_neg (by omega)] at hy
          omega
      · rw [if_neg c2] at hx
        rw [if_neg (by omega)] at hy
        omega
    · rw [if_neg c1] at hx
      rw [if_neg (by omega)] at hy
      omega

end Go.Proofs.YtffogcjlpojpdaaDoor
