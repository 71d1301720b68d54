/-
  Sound versions and the next one, walked.
-/
import Derived.Test.YtffogcjlpojpdaaDoorRd
import Derived.Test.YtffogcjlpojpdaaDoorLk
namespace Go.Proofs.YtffogcjlpojpdaaDoor
open Go.RowKit
set_option linter.unusedVariables false

theorem below_gb' {w w' : World} (h : Below w.heap.size w w') : w.grownBy w' none := ⟨h.os, h.tape, h.output, h.size, fun k hk _ => h.block k hk⟩

set_option maxHeartbeats 1600000 in
theorem sound_any (a1 a2 a3 : Int) (a4 a5 : ByteArray) (w : World) (h4 : a4.size ≤ 1048576) (h5 : a5.size ≤ 1048576) :
    Calls Tryd.prog 7 #[.agg #[.int .i64 a1, .int .i64 a2, .int .i64 a3, .string a4, .string a5]] w fun e w' => e = .returned (.bool (soundV ⟨a1, a2, a3, a4.data.toList, a5.data.toList⟩)) ∧ w.grownBy w' none := by
  obtain ⟨R, hR⟩ : ∃ R, R = soundV ⟨a1, a2, a3, a4.data.toList, a5.data.toList⟩ := ⟨_, rfl⟩
  obtain ⟨x1, hx1⟩ : ∃ x, x = bound a1 := ⟨_, rfl⟩
  obtain ⟨x2, hx2⟩ : ∃ x, x = bound a2 := ⟨_, rfl⟩
  obtain ⟨x3, hx3⟩ : ∃ x, x = bound a3 := ⟨_, rfl⟩
  obtain ⟨x4, hx4⟩ : ∃ x, x = okParts true a4.data.toList := ⟨_, rfl⟩
  obtain ⟨x5, hx5⟩ : ∃ x, x = okParts false a5.data.toList := ⟨_, rfl⟩
  have HR : Hid (R = (x1 && (x2 && (x3 && (x4 && x5))))) := by show R = _; rw [hR, hx1, hx2, hx3, hx4, hx5]; rfl
  have C1 : Hid (∀ w, Calls Tryd.prog 22 #[.int .i64 a1] w fun e w' => e = .returned (.bool x1) ∧ w' = w) := fun w => by rw [hx1]; exact inBound_any a1 w
  have C2 : Hid (∀ w, Calls Tryd.prog 22 #[.int .i64 a2] w fun e w' => e = .returned (.bool x2) ∧ w' = w) := fun w => by rw [hx2]; exact inBound_any a2 w
  have C3 : Hid (∀ w, Calls Tryd.prog 22 #[.int .i64 a3] w fun e w' => e = .returned (.bool x3) ∧ w' = w) := fun w => by rw [hx3]; exact inBound_any a3 w
  have C4 : Hid (∀ w, Calls Tryd.prog 23 #[.string a4, .bool true] w fun e w' => e = .returned (.bool x4) ∧ Below w.heap.size w w') := fun w => by rw [hx4]; exact goodParts_any a4 true w h4
  have C5 : Hid (∀ w, Calls Tryd.prog 23 #[.string a5, .bool false] w fun e w' => e = .returned (.bool x5) ∧ Below w.heap.size w w') := fun w => by rw [hx5]; exact goodParts_any a5 false w h5
  have GA : Hid (∀ o, w.grownBy (w.alloc o) none) := fun o => gb_alloc (gb_refl w none) o
  rw [← hR]
  clear hR hx1 hx2 hx3 hx4 hx5 h4 h5
  cases x1 with
  | false =>
    have HZ : Hid (R = false) := by show R = false; rw [HR.out]; rfl
    go_enter Tryd.func7, Tryd.ntmps7
    go_wp2_with (first | (go_at_call_of 22 a1; refine (C1.out _).mono ?_; rintro e w' ⟨rfl, rfl⟩) | (go_at_call_of 22 a2; refine (C2.out _).mono ?_; rintro e w' ⟨rfl, rfl⟩) | (go_at_call_of 22 a3; refine (C3.out _).mono ?_; rintro e w' ⟨rfl, rfl⟩))
    go_ret
    exact ⟨ret_bool HZ.out.symm, GA.out _⟩
  | true =>
    cases x2 with
    | false =>
      have HZ : Hid (R = false) := by show R = false; rw [HR.out]; rfl
      go_enter Tryd.func7, Tryd.ntmps7
      go_wp2_with (first | (go_at_call_of 22 a1; refine (C1.out _).mono ?_; rintro e w' ⟨rfl, rfl⟩) | (go_at_call_of 22 a2; refine (C2.out _).mono ?_; rintro e w' ⟨rfl, rfl⟩) | (go_at_call_of 22 a3; refine (C3.out _).mono ?_; rintro e w' ⟨rfl, rfl⟩))
      go_ret
      exact ⟨ret_bool HZ.out.symm, GA.out _⟩
    | true =>
      cases x3 with
      | false =>
        have HZ : Hid (R = false) := by show R = false; rw [HR.out]; rfl
        go_enter Tryd.func7, Tryd.ntmps7
        go_wp2_with (first | (go_at_call_of 22 a1; refine (C1.out _).mono ?_; rintro e w' ⟨rfl, rfl⟩) | (go_at_call_of 22 a2; refine (C2.out _).mono ?_; rintro e w' ⟨rfl, rfl⟩) | (go_at_call_of 22 a3; refine (C3.out _).mono ?_; rintro e w' ⟨rfl, rfl⟩))
        go_ret
        exact ⟨ret_bool HZ.out.symm, GA.out _⟩
      | true =>
        go_enter Tryd.func7, Tryd.ntmps7
        go_wp2_with (first | (go_at_call_of 22 a1; refine (C1.out _).mono ?_; rintro e w' ⟨rfl, rfl⟩) | (go_at_call_of 22 a2; refine (C2.out _).mono ?_; rintro e w' ⟨rfl, rfl⟩) | (go_at_call_of 22 a3; refine (C3.out _).mono ?_; rintro e w' ⟨rfl, rfl⟩) | (go_at_call 23; refine (C4.out _).mono ?_))
        rintro e w4 ⟨rfl, hb4⟩
        have c5 : w4.cell? ⟨w.heap.size, 4, none⟩ = some (.string a5) := (hb4.cell (p := ⟨w.heap.size, 4, none⟩) (by simp)).trans (by rw [Lib.cell_of_heap (heap_alloc_new w _)]; rfl)
        have H4 : Hid (w.grownBy w4 none) := by
          have h := below_gb' hb4
          exact gb_trans (GA.out _) h
        clear hb4
        cases x4 with
        | false =>
          have HZ : Hid (R = false) := by show R = false; rw [HR.out]; rfl
          go_wp2
          go_ret
          exact ⟨ret_bool HZ.out.symm, H4.out⟩
        | true =>
          have HZ : Hid (R = x5) := by show R = x5; rw [HR.out]; rfl
          go_wp2_with (first | (go_at_call 23; refine (C5.out _).mono ?_; rintro e w5 ⟨rfl, hb5⟩))
          go_ret
          exact ⟨ret_bool HZ.out.symm, gb_trans H4.out (below_gb' hb5)⟩

end Go.Proofs.YtffogcjlpojpdaaDoor
