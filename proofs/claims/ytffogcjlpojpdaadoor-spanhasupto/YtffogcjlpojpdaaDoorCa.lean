/-
  The order of parts, walked.
-/
import Derived.Test.YtffogcjlpojpdaaDoorShelf
import Derived.Test.YtffogcjlpojpdaaDoorWo
namespace Go.Proofs.YtffogcjlpojpdaaDoor
open Go.RowKit
set_option linter.unusedVariables false

theorem cmpInt_any (x y : Int) (w : World) : Calls Tryd.prog 25 #[.int .i64 x, .int .i64 y] w fun e w' => e = .returned (.int .i64 (Lib.compareInt x y)) ∧ w' = w := Any.cmp_Compare_int Tryd.lays122 x y w
theorem trim_any (s : ByteArray) (w : World) : Calls Tryd.prog 46 #[.string s, .string ⟨#[48]⟩] w fun e w' => e = .returned (.string ⟨(bareT s.data.toList).toArray⟩) ∧ w' = w := Any.strings_TrimLeft_one Tryd.lays161 s 48 (by decide) w
theorem index_any (s : ByteArray) (w : World) : Calls Tryd.prog 54 #[.string s, .string ⟨#[46]⟩] w fun e w' => e = .returned (.int .i64 (Lib.indexByte s.data.toList 46)) ∧ w' = w := Any.stringslite_Index_one Tryd.lays219 s 46 w

theorem less_cmp : ∀ (a b : List UInt8), (Op.bytesLess a b = true → Lib.compareBytes a b = -1) ∧ (Op.bytesLess a b = false → (a == b) = false → Lib.compareBytes a b = 1) ∧ ((a == b) = true → Lib.compareBytes a b = 0)
  | [], [] => by simp [Op.bytesLess, Lib.compareBytes]
  | [], _ :: _ => by simp [Op.bytesLess, Lib.compareBytes]
  | _ :: _, [] => by simp [Op.bytesLess, Lib.compareBytes]
  | x :: a, y :: b => by
    obtain ⟨h1, h2, h3⟩ := less_cmp a b
    unfold Op.bytesLess Lib.compareBytes
    by_cases hlt : x < y
    · have hne : ¬ x = y := fun e => by rw [e] at hlt; exact UInt8.lt_irrefl y hlt
      simp [hlt, hne]
    · by_cases heq : x = y
      · subst heq
        simp only [hlt, decide_false, Bool.false_or, beq_self_eq_true, Bool.true_and, if_false]
        refine ⟨h1, fun p q => h2 p (by simpa using q), fun q => h3 (by simpa using q)⟩
      · have hgt : y < x := UInt8.lt_of_le_of_ne (UInt8.not_lt.1 hlt) (Ne.symm heq)
        simp [hlt, heq, hgt]
theorem less_m1 {a b : ByteArray} (h : Op.bytesLess a.toList b.toList = true) : Lib.compareBytes a.data.toList b.data.toList = -1 := by
  rw [Lib.toList_data, Lib.toList_data] at h; exact (less_cmp _ _).1 h
theorem less_p1 {a b : ByteArray} (h : Op.bytesLess a.toList b.toList = false) (h' : (!a.toList == b.toList) = true) : Lib.compareBytes a.data.toList b.data.toList = 1 := by
  rw [Lib.toList_data, Lib.toList_data] at h h'; exact (less_cmp _ _).2.1 h (by simpa using h')
theorem less_0 {a b : ByteArray} (h' : (!a.toList == b.toList) = false) : Lib.compareBytes a.data.toList b.data.toList = 0 := by
  rw [Lib.toList_data, Lib.toList_data] at h'; exact (less_cmp _ _).2.2 (by simpa using h')

set_option maxHeartbeats 400000 in
theorem nanN_any (s : ByteArray) (w : World) : Calls Tryd.prog 119 #[.string s] w fun e w' => e = .returned (.bool false) ∧ w' = w := by
  go_enter Tryd.func119, Tryd.ntmps119
  go_wp2
  go_ret
  exact ⟨rfl, rfl⟩

set_option maxHeartbeats 400000 in
theorem cmpN_any (a b : ByteArray) (w : World) : Calls Tryd.prog 118 #[.string a, .string b] w fun e w' => e = .returned (.int .i64 (Lib.compareBytes a.data.toList b.data.toList)) ∧ w' = w := by
  cases h1 : Op.bytesLess a.toList b.toList with
  | true =>
    rw [less_m1 h1]
    go_enter Tryd.func118, Tryd.ntmps118
    go_wp2_with (go_at_call 119; refine (nanN_any _ _).mono ?_; rintro e w' ⟨rfl, rfl⟩)
    go_ret
    exact ⟨rfl, rfl⟩
  | false =>
    cases h2 : (!a.toList == b.toList) with
    | true =>
      rw [less_p1 h1 h2]
      go_enter Tryd.func118, Tryd.ntmps118
      go_wp2_with (go_at_call 119; refine (nanN_any _ _).mono ?_; rintro e w' ⟨rfl, rfl⟩)
      go_ret
      exact ⟨rfl, rfl⟩
    | false =>
      rw [less_0 h2]
      go_enter Tryd.func118, Tryd.ntmps118
      go_wp2_with (go_at_call 119; refine (nanN_any _ _).mono ?_; rintro e w' ⟨rfl, rfl⟩)
      go_ret
      exact ⟨rfl, rfl⟩

set_option maxHeartbeats 400000 in
theorem nanW_any (s : ByteArray) (w : World) : Calls Tryd.prog 122 #[.string s] w fun e w' => e = .returned (.bool false) ∧ w' = w := by
  go_enter Tryd.func122, Tryd.ntmps122
  go_wp2
  go_ret
  exact ⟨rfl, rfl⟩

set_option maxHeartbeats 400000 in
theorem cmpW_any (a b : ByteArray) (w : World) : Calls Tryd.prog 121 #[.string a, .string b] w fun e w' => e = .returned (.int .i64 (Lib.compareBytes a.data.toList b.data.toList)) ∧ w' = w := by
  cases h1 : Op.bytesLess a.toList b.toList with
  | true =>
    rw [less_m1 h1]
    go_enter Tryd.func121, Tryd.ntmps121
    go_wp2_with (go_at_call 122; refine (nanW_any _ _).mono ?_; rintro e w' ⟨rfl, rfl⟩)
    go_ret
    exact ⟨rfl, rfl⟩
  | false =>
    cases h2 : (!a.toList == b.toList) with
    | true =>
      rw [less_p1 h1 h2]
      go_enter Tryd.func121, Tryd.ntmps121
      go_wp2_with (go_at_call 122; refine (nanW_any _ _).mono ?_; rintro e w' ⟨rfl, rfl⟩)
      go_ret
      exact ⟨rfl, rfl⟩
    | false =>
      rw [less_0 h2]
      go_enter Tryd.func121, Tryd.ntmps121
      go_wp2_with (go_at_call 122; refine (nanW_any _ _).mono ?_; rintro e w' ⟨rfl, rfl⟩)
      go_ret
      exact ⟨rfl, rfl⟩

end Go.Proofs.YtffogcjlpojpdaaDoor
