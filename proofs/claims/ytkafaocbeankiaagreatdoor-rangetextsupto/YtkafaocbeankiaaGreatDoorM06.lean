import Derived.Test.YtkafaocbeankiaaGreatDoorM05
import Derived.Test.YtkafaocbeankiaaGreatDoorM04
/-
  The order of parts, walked.
-/
namespace Go.Proofs.YtkafaocbeankiaaGreatDoor
open Go.RowKit
set_option linter.unusedVariables false

theorem cmpInt_any (x y : Int) (w : World) : Calls Tryz.prog 52 #[.int .i64 x, .int .i64 y] w fun e w' => e = .returned (.int .i64 (Lib.compareInt x y)) ∧ w' = w := Any.cmp_Compare_int Tryz.lays122 x y w
theorem trim_any (s : ByteArray) (w : World) : Calls Tryz.prog 86 #[.string s, .string ⟨#[48]⟩] w fun e w' => e = .returned (.string ⟨(bareT s.data.toList).toArray⟩) ∧ w' = w := Any.strings_TrimLeft_one Tryz.lays161 s 48 (by decide) w
theorem index_any (s : ByteArray) (w : World) : Calls Tryz.prog 100 #[.string s, .string ⟨#[46]⟩] w fun e w' => e = .returned (.int .i64 (Lib.indexByte s.data.toList 46)) ∧ w' = w := Any.stringslite_Index_one Tryz.lays219 s 46 w

theorem less_cmp : ∀ (a b : List UInt8), (Op.bytesLess a b = true → Lib.compareBytes a b = -1) ∧ (Op.bytesLess a b = false → (a == b) = false → Lib.compareBytes a b = 1) ∧ ((a == b) = true → Lib.compareBytes a b = 0)
  | [], [] => by simp [Op.bytesLess, Lib.compareBytes]
  | [], _ :: _ => by simp [Op.bytesLess, Lib.compareBytes]
  | _ :: _, [] => by simp [Op.bytesLess, Lib.compareBytes]
  | x :: a, y :: b => by
    obtain ⟨h1, h2, h3⟩ := less_cmp a b
    unfold Op.bytesLess Lib.compareBytes
    by_cases hlt : x < y
    · have hne : ¬ x = y := fun e => by rw [e] at hlt; exact UInt8.lt_irrefl y hlt
      simp [hlt, hne]
    · by_cases heq : x = y
      · subst heq
        simp only [hlt, decide_false, Bool.false_or, beq_self_eq_true, Bool.true_and, if_false]
        refine ⟨h1, fun p q => h2 p (by simpa using q), fun q => h3 (by simpa using q)⟩
      · have hgt : y < x := UInt8.lt_of_le_of_ne (UInt8.not_lt.1 hlt) (Ne.symm heq)
        simp [hlt, heq, hgt]
theorem less_m1 {a b : ByteArray} (h : Op.bytesLess a.toList b.toList = true) : Lib.compareBytes a.data.toList b.data.toList = -1 := by
  rw [Lib.toList_data, Lib.toList_data] at h; exact (less_cmp _ _).1 h
theorem less_p1 {a b : ByteArray} (h : Op.bytesLess a.toList b.toList = false) (h' : (!a.toList == b.toList) = true) : Lib.compareBytes a.data.toList b.data.toList = 1 := by
  rw [Lib.toList_data, Lib.toList_data] at h h'; exact (less_cmp _ _).2.1 h (by simpa using h')
theorem less_0 {a b : ByteArray} (h' : (!a.toList == b.toList) = false) : Lib.compareBytes a.data.toList b.data.toList = 0 := by
  rw [Lib.toList_data, Lib.toList_data] at h'; exact (less_cmp _ _).2.2 (by simpa using h')

set_option maxHeartbeats 400000 in
theorem nanN_any (s : ByteArray) (w : World) : Calls Tryz.prog 143 #[.string s] w fun e w' => e = .returned (.bool false) ∧ w' = w := by
  go_enter Tryz.func143, Tryz.ntmps143
  go_wp2
  go_ret
  exact ⟨rfl, rfl⟩

set_option maxHeartbeats 400000 in
theorem cmpN_any (a b : ByteArray) (w : World) : Calls Tryz.prog 142 #[.string a, .string b] w fun e w' => e = .returned (.int .i64 (Lib.compareBytes a.data.toList b.data.toList)) ∧ w' = w := by
  cases h1 : Op.bytesLess a.toList b.toList with
  | true =>
    rw [less_m1 h1]
    go_enter Tryz.func142, Tryz.ntmps142
    go_wp2_with (go_at_call 143; refine (nanN_any _ _).mono ?_; rintro e w' ⟨rfl, rfl⟩)
    go_ret
    exact ⟨rfl, rfl⟩
  | false =>
    cases h2 : (!a.toList == b.toList) with
    | true =>
      rw [less_p1 h1 h2]
      go_enter Tryz.func142, Tryz.ntmps142
      go_wp2_with (go_at_call 143; refine (nanN_any _ _).mono ?_; rintro e w' ⟨rfl, rfl⟩)
      go_ret
      exact ⟨rfl, rfl⟩
    | false =>
      rw [less_0 h2]
      go_enter Tryz.func142, Tryz.ntmps142
      go_wp2_with (go_at_call 143; refine (nanN_any _ _).mono ?_; rintro e w' ⟨rfl, rfl⟩)
      go_ret
      exact ⟨rfl, rfl⟩

set_option maxHeartbeats 400000 in
theorem nanW_any (s : ByteArray) (w : World) : Calls Tryz.prog 146 #[.string s] w fun e w' => e = .returned (.bool false) ∧ w' = w := by
  go_enter Tryz.func146, Tryz.ntmps146
  go_wp2
  go_ret
  exact ⟨rfl, rfl⟩

set_option maxHeartbeats 400000 in
theorem cmpW_any (a b : ByteArray) (w : World) : Calls Tryz.prog 145 #[.string a, .string b] w fun e w' => e = .returned (.int .i64 (Lib.compareBytes a.data.toList b.data.toList)) ∧ w' = w := by
  cases h1 : Op.bytesLess a.toList b.toList with
  | true =>
    rw [less_m1 h1]
    go_enter Tryz.func145, Tryz.ntmps145
    go_wp2_with (go_at_call 146; refine (nanW_any _ _).mono ?_; rintro e w' ⟨rfl, rfl⟩)
    go_ret
    exact ⟨rfl, rfl⟩
  | false =>
    cases h2 : (!a.toList == b.toList) with
    | true =>
      rw [less_p1 h1 h2]
      go_enter Tryz.func145, Tryz.ntmps145
      go_wp2_with (go_at_call 146; refine (nanW_any _ _).mono ?_; rintro e w' ⟨rfl, rfl⟩)
      go_ret
      exact ⟨rfl, rfl⟩
    | false =>
      rw [less_0 h2]
      go_enter Tryz.func145, Tryz.ntmps145
      go_wp2_with (go_at_call 146; refine (nanW_any _ _).mono ?_; rintro e w' ⟨rfl, rfl⟩)
      go_ret
      exact ⟨rfl, rfl⟩

end Go.Proofs.YtkafaocbeankiaaGreatDoor

/-
  Digits alone; the first dot.
-/
namespace Go.Proofs.YtkafaocbeankiaaGreatDoor
open Go.RowKit
set_option linter.unusedVariables false

set_option maxHeartbeats 400000 in
theorem cutL_any (s : ByteArray) (w : World) (hs : s.size < 2 ^ 62) :
    Calls Tryz.prog 84 #[.string s, .string ⟨#[46]⟩] w fun e w' => e = .returned (.tuple #[.string ⟨(cut1 s.data.toList).toArray⟩, .string ⟨(cut2 s.data.toList).toArray⟩, .bool (cut3 s.data.toList)]) ∧ ∃ n, w' = w.drewN n := by
  rcases ix_cases s.data.toList with ⟨h1, h2⟩ | ⟨k, h1, h2, h3, h4⟩
  · have e1 : cut1 s.data.toList = s.data.toList := by unfold cut1; rw [if_pos h1]
    have e2 : cut2 s.data.toList = [] := by unfold cut2; rw [if_pos h1]
    have e3 : cut3 s.data.toList = false := by unfold cut3; rw [h1]; rfl
    rw [e1, e2, e3]
    have HX : Hid (Lib.indexByte s.data.toList 46 = -1) := h1
    clear h1 h2 e1 e2 e3
    go_enter Tryz.func84, Tryz.ntmps84
    go_wp2_with (go_at_call 100; refine (index_any _ _).mono ?_; rintro e w' ⟨rfl, rfl⟩; rw [HX.out])
    go_ret3
    exact ⟨rfl, 0, rfl⟩
  · have hz : k < s.size := by simpa using h2
    have e1 : cut1 s.data.toList = s.data.toList.take k := by unfold cut1; rw [if_neg (by omega), h1]; simp
    have e2 : cut2 s.data.toList = s.data.toList.drop (k + 1) := by unfold cut2; rw [if_neg (by omega), h1]; simp
    have e3 : cut3 s.data.toList = true := by unfold cut3; simp; omega
    rw [e1, e2, e3]
    have HX : Hid (Lib.indexByte s.data.toList 46 = k) := h1
    clear h1 h2 h3 h4 e1 e2 e3
    obtain ⟨X, hX⟩ : ∃ X : ByteArray, X = ⟨(s.data.toList.take k).toArray⟩ := ⟨_, rfl⟩
    obtain ⟨Y, hY⟩ : ∃ Y : ByteArray, Y = ⟨(s.data.toList.drop (k + 1)).toArray⟩ := ⟨_, rfl⟩
    rw [← hX, ← hY]
    have s1 : ∀ wx, (Instr.slice 9 (.string s) none (some (.int .i64 (k : Int))) none).run Tryz.prog wx = .ok (.string X) wx := fun wx => by rw [hX]; exact run_pre s k (by omega) wx
    have s2 : ∀ wx, (Instr.slice 9 (.string s) (some (.int .i64 ((k : Int) + 1))) none none).run Tryz.prog wx = .ok (.string Y) wx := fun wx => by rw [hY]; exact run_suf s (k + 1) (by omega) wx
    clear hX hY
    go_enter Tryz.func84, Tryz.ntmps84
    go_wp2_with (go_at_call 100; refine (index_any _ _).mono ?_; rintro e w' ⟨rfl, rfl⟩; rw [HX.out])
    go_quiet (fail)
    go_wp2
    go_ret3
    exact ⟨rfl, _, rfl⟩

set_option maxHeartbeats 400000 in
theorem cut_any (s : ByteArray) (w : World) (hs : s.size < 2 ^ 62) :
    Calls Tryz.prog 65 #[.string s, .string ⟨#[46]⟩] w fun e w' => e = .returned (.tuple #[.string ⟨(cut1 s.data.toList).toArray⟩, .string ⟨(cut2 s.data.toList).toArray⟩, .bool (cut3 s.data.toList)]) ∧ ∃ n, w' = w.drewN n := by
  go_enter Tryz.func65, Tryz.ntmps65
  go_wp2_with (go_at_call 84; refine (cutL_any _ _ hs).mono ?_; rintro e w' ⟨rfl, n, rfl⟩)
  go_ret3
  exact ⟨rfl, n, rfl⟩
end Go.Proofs.YtkafaocbeankiaaGreatDoor

/-
  Parts behind their interface, walked.
-/
namespace Go.Proofs.YtkafaocbeankiaaGreatDoor
open Go.RowKit
set_option linter.unusedVariables false

/-- a part as the program holds it -/
def partV (l : List UInt8) : Value := if numT l then .iface 133 (.string ⟨(bareT l).toArray⟩) else .iface 135 (.string ⟨l.toArray⟩)

set_option maxHeartbeats 400000 in
theorem partOf_any (s : ByteArray) (w : World) (hs : s.size < 2 ^ 62) :
    Calls Tryz.prog 66 #[.string s] w fun e w' => e = .returned (partV s.data.toList) ∧ w.grownBy w' none := by
  unfold partV
  cases hn : numT s.data.toList with
  | true =>
    have HN : Hid (numT s.data.toList = true) := hn
    clear hn
    rw [if_pos rfl]
    go_enter Tryz.func66, Tryz.ntmps66
    go_wp2_with (first | (go_at_call 85; refine (isDigits_any _ _ hs).mono ?_; rw [HN.out]; rintro e w1 ⟨rfl, hg1⟩) | (go_at_call 86; refine (trim_any _ _).mono ?_; rintro e w' ⟨rfl, rfl⟩))
    go_ret
    exact ⟨rfl, hg1⟩
  | false =>
    have HN : Hid (numT s.data.toList = false) := hn
    clear hn
    rw [if_neg (by simp)]
    go_enter Tryz.func66, Tryz.ntmps66
    go_wp2_with (first | (go_at_call 85; refine (isDigits_any _ _ hs).mono ?_; rw [HN.out]; rintro e w1 ⟨rfl, hg1⟩))
    go_ret
    exact ⟨rfl, hg1⟩

theorem taNN (b : ByteArray) (w : World) : (Instr.typeAssert (.iface 133 (.string b)) 110 133 true).run Tryz.prog w = .ok (.tuple #[.string b, .bool true]) w := by kernel_rfl
theorem taWN (b : ByteArray) (w : World) : (Instr.typeAssert (.iface 135 (.string b)) 110 133 true).run Tryz.prog w = .ok (.tuple #[.string ⟨#[]⟩, .bool false]) w := by kernel_rfl
theorem taWW (b : ByteArray) (w : World) : (Instr.typeAssert (.iface 135 (.string b)) 110 135 true).run Tryz.prog w = .ok (.tuple #[.string b, .bool true]) w := by kernel_rfl
theorem taNW (b : ByteArray) (w : World) : (Instr.typeAssert (.iface 133 (.string b)) 110 135 true).run Tryz.prog w = .ok (.tuple #[.string ⟨#[]⟩, .bool false]) w := by kernel_rfl

set_option maxHeartbeats 400000 in
theorem orderNN_eq (a b : ByteArray) (w : World) (h : a.size = b.size) : Calls Tryz.prog 141 #[.string a, .iface 133 (.string b)] w fun e w' => e = .returned (.int .i64 (Lib.compareBytes a.data.toList b.data.toList)) ∧ ∃ n, w' = w.drewN n := by
  have ta := taNN b
  have hd : ((a.size : Int) == (b.size : Int)) = true := by simp; omega
  clear h
  go_enter Tryz.func141, Tryz.ntmps141
  go_wp2_with (first | (go_at_call 142; refine (cmpN_any _ _ _).mono ?_; rintro e w' ⟨rfl, rfl⟩))
  go_ret
  exact ⟨rfl, 0, rfl⟩
set_option maxHeartbeats 400000 in
theorem orderNN_ne (a b : ByteArray) (w : World) (h : ¬ a.size = b.size) : Calls Tryz.prog 141 #[.string a, .iface 133 (.string b)] w fun e w' => e = .returned (.int .i64 (Lib.compareInt a.size b.size)) ∧ ∃ n, w' = w.drewN n := by
  have ta := taNN b
  have hd : ((a.size : Int) == (b.size : Int)) = false := by simp; omega
  clear h
  go_enter Tryz.func141, Tryz.ntmps141
  go_wp2_with (first | (go_at_call 52; refine (cmpInt_any _ _ _).mono ?_; rintro e w' ⟨rfl, rfl⟩))
  go_ret
  exact ⟨rfl, 0, rfl⟩
set_option maxHeartbeats 400000 in
theorem orderNW (a b : ByteArray) (w : World) : Calls Tryz.prog 141 #[.string a, .iface 135 (.string b)] w fun e w' => e = .returned (.int .i64 (-1)) ∧ ∃ n, w' = w.drewN n := by
  have ta := taWN b
  go_enter Tryz.func141, Tryz.ntmps141
  go_wp2
  go_ret
  exact ⟨rfl, 0, rfl⟩
set_option maxHeartbeats 400000 in
theorem orderWN (a b : ByteArray) (w : World) : Calls Tryz.prog 144 #[.string a, .iface 133 (.string b)] w fun e w' => e = .returned (.int .i64 1) ∧ ∃ n, w' = w.drewN n := by
  have ta := taNW b
  go_enter Tryz.func144, Tryz.ntmps144
  go_wp2
  go_ret
  exact ⟨rfl, 0, rfl⟩
set_option maxHeartbeats 400000 in
theorem orderWW (a b : ByteArray) (w : World) : Calls Tryz.prog 144 #[.string a, .iface 135 (.string b)] w fun e w' => e = .returned (.int .i64 (Lib.compareBytes a.data.toList b.data.toList)) ∧ ∃ n, w' = w.drewN n := by
  have ta := taWW b
  go_enter Tryz.func144, Tryz.ntmps144
  go_wp2_with (first | (go_at_call 145; refine (cmpW_any _ _ _).mono ?_; rintro e w' ⟨rfl, rfl⟩))
  go_ret
  exact ⟨rfl, 0, rfl⟩
end Go.Proofs.YtkafaocbeankiaaGreatDoor
