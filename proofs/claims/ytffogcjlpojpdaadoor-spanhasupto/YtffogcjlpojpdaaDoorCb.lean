/-
  Digits alone; the first dot.
-/
import Derived.Test.YtffogcjlpojpdaaDoorCa
import Derived.Test.YtffogcjlpojpdaaDoorId
namespace Go.Proofs.YtffogcjlpojpdaaDoor
open Go.RowKit
set_option linter.unusedVariables false

set_option maxHeartbeats 400000 in
theorem cutL_any (s : ByteArray) (w : World) (hs : s.size < 2 ^ 62) :
    Calls Tryd.prog 44 #[.string s, .string ⟨#[46]⟩] w fun e w' => e = .returned (.tuple #[.string ⟨(cut1 s.data.toList).toArray⟩, .string ⟨(cut2 s.data.toList).toArray⟩, .bool (cut3 s.data.toList)]) ∧ ∃ n, w' = w.drewN n := by
  rcases ix_cases s.data.toList with ⟨h1, h2⟩ | ⟨k, h1, h2, h3, h4⟩
  · have e1 : cut1 s.data.toList = s.data.toList := by unfold cut1; rw [if_pos h1]
    have e2 : cut2 s.data.toList = [] := by unfold cut2; rw [if_pos h1]
    have e3 : cut3 s.data.toList = false := by unfold cut3; rw [h1]; rfl
    rw [e1, e2, e3]
    have HX : Hid (Lib.indexByte s.data.toList 46 = -1) := h1
    clear h1 h2 e1 e2 e3
    go_enter Tryd.func44, Tryd.ntmps44
    go_wp2_with (go_at_call 54; refine (index_any _ _).mono ?_; rintro e w' ⟨rfl, rfl⟩; rw [HX.out])
    go_ret3
    exact ⟨rfl, 0, rfl⟩
  · have hz : k < s.size := by simpa using h2
    have e1 : cut1 s.data.toList = s.data.toList.take k := by unfold cut1; rw [if_neg (by omega), h1]; simp
    have e2 : cut2 s.data.toList = s.data.toList.drop (k + 1) := by unfold cut2; rw [if_neg (by omega), h1]; simp
    have e3 : cut3 s.data.toList = true := by unfold cut3; simp; omega
    rw [e1, e2, e3]
    have HX : Hid (Lib.indexByte s.data.toList 46 = k) := h1
    clear h1 h2 h3 h4 e1 e2 e3
    obtain ⟨X, hX⟩ : ∃ X : ByteArray, X = ⟨(s.data.toList.take k).toArray⟩ := ⟨_, rfl⟩
    obtain ⟨Y, hY⟩ : ∃ Y : ByteArray, Y = ⟨(s.data.toList.drop (k + 1)).toArray⟩ := ⟨_, rfl⟩
    rw [← hX, ← hY]
    have s1 : ∀ wx, (Instr.slice 9 (.string s) none (some (.int .i64 (k : Int))) none).run Tryd.prog wx = .ok (.string X) wx := fun wx => by rw [hX]; exact run_pre s k (by omega) wx
    have s2 : ∀ wx, (Instr.slice 9 (.string s) (some (.int .i64 ((k : Int) + 1))) none none).run Tryd.prog wx = .ok (.string Y) wx := fun wx => by rw [hY]; exact run_suf s (k + 1) (by omega) wx
    clear hX hY
    go_enter Tryd.func44, Tryd.ntmps44
    go_wp2_with (go_at_call 54; refine (index_any _ _).mono ?_; rintro e w' ⟨rfl, rfl⟩; rw [HX.out])
    go_quiet (fail)
    go_wp2
    go_ret3
    exact ⟨rfl, _, rfl⟩

set_option maxHeartbeats 400000 in
theorem cut_any (s : ByteArray) (w : World) (hs : s.size < 2 ^ 62) :
    Calls Tryd.prog 36 #[.string s, .string ⟨#[46]⟩] w fun e w' => e = .returned (.tuple #[.string ⟨(cut1 s.data.toList).toArray⟩, .string ⟨(cut2 s.data.toList).toArray⟩, .bool (cut3 s.data.toList)]) ∧ ∃ n, w' = w.drewN n := by
  go_enter Tryd.func36, Tryd.ntmps36
  go_wp2_with (go_at_call 44; refine (cutL_any _ _ hs).mono ?_; rintro e w' ⟨rfl, n, rfl⟩)
  go_ret3
  exact ⟨rfl, n, rfl⟩
end Go.Proofs.YtffogcjlpojpdaaDoor
