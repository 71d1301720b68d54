/-
  Parts behind their interface, walked.
-/
import Derived.Test.YtffogcjlpojpdaaDoorCb
namespace Go.Proofs.YtffogcjlpojpdaaDoor
open Go.RowKit
set_option linter.unusedVariables false

/-- a part as the program holds it -/
def partV (l : List UInt8) : Value := if numT l then .iface 82 (.string ⟨(bareT l).toArray⟩) else .iface 84 (.string ⟨l.toArray⟩)

set_option maxHeartbeats 400000 in
theorem partOf_any (s : ByteArray) (w : World) (hs : s.size < 2 ^ 62) :
    Calls Tryd.prog 37 #[.string s] w fun e w' => e = .returned (partV s.data.toList) ∧ w.grownBy w' none := by
  unfold partV
  cases hn : numT s.data.toList with
  | true =>
    have HN : Hid (numT s.data.toList = true) := hn
    clear hn
    rw [if_pos rfl]
    go_enter Tryd.func37, Tryd.ntmps37
    go_wp2_with (first | (go_at_call 45; refine (isDigits_any _ _ hs).mono ?_; rw [HN.out]; rintro e w1 ⟨rfl, hg1⟩) | (go_at_call 46; refine (trim_any _ _).mono ?_; rintro e w' ⟨rfl, rfl⟩))
    go_ret
    exact ⟨rfl, hg1⟩
  | false =>
    have HN : Hid (numT s.data.toList = false) := hn
    clear hn
    rw [if_neg (by simp)]
    go_enter Tryd.func37, Tryd.ntmps37
    go_wp2_with (first | (go_at_call 45; refine (isDigits_any _ _ hs).mono ?_; rw [HN.out]; rintro e w1 ⟨rfl, hg1⟩))
    go_ret
    exact ⟨rfl, hg1⟩

theorem taNN (b : ByteArray) (w : World) : (Instr.typeAssert (.iface 82 (.string b)) 65 82 true).run Tryd.prog w = .ok (.tuple #[.string b, .bool true]) w := by kernel_rfl
theorem taWN (b : ByteArray) (w : World) : (Instr.typeAssert (.iface 84 (.string b)) 65 82 true).run Tryd.prog w = .ok (.tuple #[.string ⟨#[]⟩, .bool false]) w := by kernel_rfl
theorem taWW (b : ByteArray) (w : World) : (Instr.typeAssert (.iface 84 (.string b)) 65 84 true).run Tryd.prog w = .ok (.tuple #[.string b, .bool true]) w := by kernel_rfl
theorem taNW (b : ByteArray) (w : World) : (Instr.typeAssert (.iface 82 (.string b)) 65 84 true).run Tryd.prog w = .ok (.tuple #[.string ⟨#[]⟩, .bool false]) w := by kernel_rfl

set_option maxHeartbeats 400000 in
theorem orderNN_eq (a b : ByteArray) (w : World) (h : a.size = b.size) : Calls Tryd.prog 117 #[.string a, .iface 82 (.string b)] w fun e w' => e = .returned (.int .i64 (Lib.compareBytes a.data.toList b.data.toList)) ∧ ∃ n, w' = w.drewN n := by
  have ta := taNN b
  have hd : ((a.size : Int) == (b.size : Int)) = true := by simp; omega
  clear h
  go_enter Tryd.func117, Tryd.ntmps117
  go_wp2_with (first | (go_at_call 118; refine (cmpN_any _ _ _).mono ?_; rintro e w' ⟨rfl, rfl⟩))
  go_ret
  exact ⟨rfl, 0, rfl⟩
set_option maxHeartbeats 400000 in
theorem orderNN_ne (a b : ByteArray) (w : World) (h : ¬ a.size = b.size) : Calls Tryd.prog 117 #[.string a, .iface 82 (.string b)] w fun e w' => e = .returned (.int .i64 (Lib.compareInt a.size b.size)) ∧ ∃ n, w' = w.drewN n := by
  have ta := taNN b
  have hd : ((a.size : Int) == (b.size : Int)) = false := by simp; omega
  clear h
  go_enter Tryd.func117, Tryd.ntmps117
  go_wp2_with (first | (go_at_call 25; refine (cmpInt_any _ _ _).mono ?_; rintro e w' ⟨rfl, rfl⟩))
  go_ret
  exact ⟨rfl, 0, rfl⟩
set_option maxHeartbeats 400000 in
theorem orderNW (a b : ByteArray) (w : World) : Calls Tryd.prog 117 #[.string a, .iface 84 (.string b)] w fun e w' => e = .returned (.int .i64 (-1)) ∧ ∃ n, w' = w.drewN n := by
  have ta := taWN b
  go_enter Tryd.func117, Tryd.ntmps117
  go_wp2
  go_ret
  exact ⟨rfl, 0, rfl⟩
set_option maxHeartbeats 400000 in
theorem orderWN (a b : ByteArray) (w : World) : Calls Tryd.prog 120 #[.string a, .iface 82 (.string b)] w fun e w' => e = .returned (.int .i64 1) ∧ ∃ n, w' = w.drewN n := by
  have ta := taNW b
  go_enter Tryd.func120, Tryd.ntmps120
  go_wp2
  go_ret
  exact ⟨rfl, 0, rfl⟩
set_option maxHeartbeats 400000 in
theorem orderWW (a b : ByteArray) (w : World) : Calls Tryd.prog 120 #[.string a, .iface 84 (.string b)] w fun e w' => e = .returned (.int .i64 (Lib.compareBytes a.data.toList b.data.toList)) ∧ ∃ n, w' = w.drewN n := by
  have ta := taWW b
  go_enter Tryd.func120, Tryd.ntmps120
  go_wp2_with (first | (go_at_call 121; refine (cmpW_any _ _ _).mono ?_; rintro e w' ⟨rfl, rfl⟩))
  go_ret
  exact ⟨rfl, 0, rfl⟩
end Go.Proofs.YtffogcjlpojpdaaDoor
