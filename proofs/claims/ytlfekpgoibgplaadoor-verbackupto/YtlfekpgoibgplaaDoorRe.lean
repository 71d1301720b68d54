/-
  Sound versions and the next one, walked.
-/
import Derived.Test.YtlfekpgoibgplaaDoorRd
import Derived.Test.YtlfekpgoibgplaaDoorLk
namespace Go.Proofs.YtlfekpgoibgplaaDoor
open Go.RowKit
set_option linter.unusedVariables false

theorem below_gb' {w w' : World} (h : Below w.heap.size w w') : w.grownBy w' none := ⟨h.os, h.tape, h.output, h.size, fun k hk _ => h.block k hk⟩

set_option maxHeartbeats 1600000 in
theorem sound_any (a1 a2 a3 : Int) (a4 a5 : ByteArray) (w : World) (h4 : a4.size ≤ 1048576) (h5 : a5.size ≤ 1048576) :
    Calls Tryd.prog 13 #[.agg #[.int .i64 a1, .int .i64 a2, .int .i64 a3, .string a4, .string a5]] w fun e w' => e = .returned (.bool (soundV ⟨a1, a2, a3, a4.data.toList, a5.data.toList⟩)) ∧ w.grownBy w' none := by
  obtain ⟨R, hR⟩ : ∃ R, R = soundV ⟨a1, a2, a3, a4.data.toList, a5.data.toList⟩ := ⟨_, rfl⟩
  obtain ⟨x1, hx1⟩ : ∃ x, x = bound a1 := ⟨_, rfl⟩
  obtain ⟨x2, hx2⟩ : ∃ x, x = bound a2 := ⟨_, rfl⟩
  obtain ⟨x3, hx3⟩ : ∃ x, x = bound a3 := ⟨_, rfl⟩
  obtain ⟨x4, hx4⟩ : ∃ x, x = okParts true a4.data.toList := ⟨_, rfl⟩
  obtain ⟨x5, hx5⟩ : ∃ x, x = okParts false a5.data.toList := ⟨_, rfl⟩
  have HR : Hid (R = (x1 && (x2 && (x3 && (x4 && x5))))) := by show R = _; rw [hR, hx1, hx2, hx3, hx4, hx5]; rfl
  have C1 : Hid (∀ w, Calls Tryd.prog 23 #[.int .i64 a1] w fun e w' => e = .returned (.bool x1) ∧ w' = w) := fun w => by rw [hx1]; exact inBound_any a1 w
  have C2 : Hid (∀ w, Calls Tryd.prog 23 #[.int .i64 a2] w fun e w' => e = .returned (.bool x2) ∧ w' = w) := fun w => by rw [hx2]; exact inBound_any a2 w
  have C3 : Hid (∀ w, Calls Tryd.prog 23 #[.int .i64 a3] w fun e w' => e = .returned (.bool x3) ∧ w' = w) := fun w => by rw [hx3]; exact inBound_any a3 w
  have C4 : Hid (∀ w, Calls Tryd.prog 24 #[.string a4, .bool true] w fun e w' => e = .returned (.bool x4) ∧ Below w.heap.size w w') := fun w => by rw [hx4]; exact goodParts_any a4 true w h4
  have C5 : Hid (∀ w, Calls Tryd.prog 24 #[.string a5, .bool false] w fun e w' => e = .returned (.bool x5) ∧ Below w.heap.size w w') := fun w => by rw [hx5]; exact goodParts_any a5 false w h5
  have GA : Hid (∀ o, w.grownBy (w.alloc o) none) := fun o => gb_alloc (gb_refl w none) o
  rw [← hR]
  clear hR hx1 hx2 hx3 hx4 hx5 h4 h5
  cases x1 with
  | false =>
    have HZ : Hid (R = false) := by show R = false; rw [HR.out]; rfl
    go_enter Tryd.func13, Tryd.ntmps13
    go_wp2_with (first | (go_at_call_of 23 a1; refine (C1.out _).mono ?_; rintro e w' ⟨rfl, rfl⟩) | (go_at_call_of 23 a2; refine (C2.out _).mono ?_; rintro e w' ⟨rfl, rfl⟩) | (go_at_call_of 23 a3; refine (C3.out _).mono ?_; rintro e w' ⟨rfl, rfl⟩))
    go_ret
    exact ⟨ret_bool HZ.out.symm, GA.out _⟩
  | true =>
    cases x2 with
    | false =>
      have HZ : Hid (R = false) := by show R = false; rw [HR.out]; rfl
      go_enter Tryd.func13, Tryd.ntmps13
      go_wp2_with (first | (go_at_call_of 23 a1; refine (C1.out _).mono ?_; rintro e w' ⟨rfl, rfl⟩) | (go_at_call_of 23 a2; refine (C2.out _).mono ?_; rintro e w' ⟨rfl, rfl⟩) | (go_at_call_of 23 a3; refine (C3.out _).mono ?_; rintro e w' ⟨rfl, rfl⟩))
      go_ret
      exact ⟨ret_bool HZ.out.symm, GA.out _⟩
    | true =>
      cases x3 with
      | false =>
        have HZ : Hid (R = false) := by show R = false; rw [HR.out]; rfl
        go_enter Tryd.func13, Tryd.ntmps13
        go_wp2_with (first | (go_at_call_of 23 a1; refine (C1.out _).mono ?_; rintro e w' ⟨rfl, rfl⟩) | (go_at_call_of 23 a2; refine (C2.out _).mono ?_; rintro e w' ⟨rfl, rfl⟩) | (go_at_call_of 23 a3; refine (C3.out _).mono ?_; rintro e w' ⟨rfl, rfl⟩))
        go_ret
        exact ⟨ret_bool HZ.out.symm, GA.out _⟩
      | true =>
        go_enter Tryd.func13, Tryd.ntmps13
        go_wp2_with (first | (go_at_call_of 23 a1; refine (C1.out _).mono ?_; rintro e w' ⟨rfl, rfl⟩) | (go_at_call_of 23 a2; refine (C2.out _).mono ?_; rintro e w' ⟨rfl, rfl⟩) | (go_at_call_of 23 a3; refine (C3.out _).mono ?_; rintro e w' ⟨rfl, rfl⟩) | (go_at_call 24; refine (C4.out _).mono ?_))
        rintro e w4 ⟨rfl, hb4⟩
        have c5 : w4.cell? ⟨w.heap.size, 4, none⟩ = some (.string a5) := (hb4.cell (p := ⟨w.heap.size, 4, none⟩) (by simp)).trans (by rw [Lib.cell_of_heap (heap_alloc_new w _)]; rfl)
        have H4 : Hid (w.grownBy w4 none) := by
          have h := below_gb' hb4
          exact gb_trans (GA.out _) h
        clear hb4
        cases x4 with
        | false =>
          have HZ : Hid (R = false) := by show R = false; rw [HR.out]; rfl
          go_wp2
          go_ret
          exact ⟨ret_bool HZ.out.symm, H4.out⟩
        | true =>
          have HZ : Hid (R = x5) := by show R = x5; rw [HR.out]; rfl
          go_wp2_with (first | (go_at_call 24; refine (C5.out _).mono ?_; rintro e w5 ⟨rfl, hb5⟩))
          go_ret
          exact ⟨ret_bool HZ.out.symm, gb_trans H4.out (below_gb' hb5)⟩

theorem rowR2 (w : World) (o1 o2 : Obj) : ((w.alloc o1).alloc o2).heap[w.heap.size + 1]? = some o2 := by
  have := heap_alloc_new (w.alloc o1) o2
  simpa using this
theorem row23 (w : World) (o1 o2 o3 : Obj) : (((w.alloc o1).alloc o2).alloc o3).heap[w.heap.size + 1]? = some o2 := by
  rw [Lib.alloc_old _ _ _ (by simp)]; exact rowR2 w o1 o2
theorem add_dot0 (a : ByteArray) (wx : World) (h : a.size < 2 ^ 62) : (Op.stringOp .add a ⟨#[46, 48]⟩).run Tryd.prog wx = .ok (.string ⟨(a.data.toList ++ [46, 48]).toArray⟩) wx := by
  have e : a = ⟨a.data.toList.toArray⟩ := by cases a; simp
  rw [e, run_string_add_sum wx _ _ (by
    show a.data.toList.toArray.size + 2 ≤ _
    have : a.data.toList.toArray.size = a.size := by simp
    rw [this]; omega)]
  rw [show (⟨#[46, 48]⟩ : ByteArray) = ⟨[46, 48].toArray⟩ from rfl, ByteArray.mk_append_mk]

set_option maxHeartbeats 800000 in
theorem next_f (a1 a2 a3 : Int) (a4 a5 : ByteArray) (w : World) (h4 : a4.size ≠ 0) (hs : a4.size < 2 ^ 62) :
    Calls Tryd.prog 11 #[.agg #[.int .i64 a1, .int .i64 a2, .int .i64 a3, .string a4, .string a5]] w fun e w' => e = .returned (.agg #[.int .i64 a1, .int .i64 a2, .int .i64 a3, .string ⟨(a4.data.toList ++ [46, 48]).toArray⟩, .string ⟨#[]⟩]) ∧ w.grownBy w' none := by
  have c1 := emp_f h4
  obtain ⟨X, hX⟩ : ∃ X : ByteArray, X = ⟨(a4.data.toList ++ [46, 48]).toArray⟩ := ⟨_, rfl⟩
  have ad : ∀ wx, (Op.stringOp .add a4 ⟨#[46, 48]⟩).run Tryd.prog wx = .ok (.string X) wx := fun wx => by rw [hX]; exact add_dot0 a4 wx hs
  rw [← hX]
  clear hX h4
  go_enter Tryd.func11, Tryd.ntmps11
  go_wp2
  exact bodyPost_ret (results_cell_row rfl _ _ (w.heap.size + 1) 25 _ (0, 0) _ rfl (row23 w _ _ _) Tryd.underlying25 rfl (by kernel_rfl)) rfl ⟨rfl, gb_alloc (gb_alloc (gb_alloc (gb_refl w none) _) _) _⟩

set_option maxHeartbeats 800000 in
theorem next_s (a1 a2 a3 : Int) (a4 a5 : ByteArray) (w : World) (h4 : a4.size = 0) (h3 : a3 < 4611686018427387904) (h0 : -9223372036854775808 ≤ a3) :
    Calls Tryd.prog 11 #[.agg #[.int .i64 a1, .int .i64 a2, .int .i64 a3, .string a4, .string a5]] w fun e w' => e = .returned (.agg #[.int .i64 a1, .int .i64 a2, .int .i64 (a3 + 1), .string ⟨#[48]⟩, .string ⟨#[]⟩]) ∧ w.grownBy w' none := by
  have c1 := emp_t h4
  have wr : IntKind.i64.wrap (a3 + 1) = a3 + 1 := by rw [IntKind.wrap_i64]; omega
  clear h4
  go_enter Tryd.func11, Tryd.ntmps11
  go_wp2
  exact bodyPost_ret (results_cell_row rfl _ _ (w.heap.size + 1) 25 _ (0, 0) _ rfl (row23 w _ _ _) Tryd.underlying25 rfl (by kernel_rfl)) rfl ⟨rfl, gb_alloc (gb_alloc (gb_alloc (gb_refl w none) _) _) _⟩

set_option maxHeartbeats 800000 in
theorem next_g (a1 a2 a3 : Int) (a4 a5 : ByteArray) (w : World) (h4 : a4.size = 0) (h3 : ¬ a3 < 4611686018427387904) :
    Calls Tryd.prog 11 #[.agg #[.int .i64 a1, .int .i64 a2, .int .i64 a3, .string a4, .string a5]] w fun e w' => e = .returned (.agg #[.int .i64 a1, .int .i64 a2, .int .i64 a3, .string ⟨#[48]⟩, .string ⟨#[]⟩]) ∧ w.grownBy w' none := by
  have c1 := emp_t h4
  clear h4
  go_enter Tryd.func11, Tryd.ntmps11
  go_wp2
  exact bodyPost_ret (results_cell_row rfl _ _ (w.heap.size + 1) 25 _ (0, 0) _ rfl (row23 w _ _ _) Tryd.underlying25 rfl (by kernel_rfl)) rfl ⟨rfl, gb_alloc (gb_alloc (gb_alloc (gb_refl w none) _) _) _⟩

set_option maxHeartbeats 800000 in
theorem rnext_f (a1 a2 a3 : Int) (a4 a5 : ByteArray) (w : World) (h4 : a4.size ≠ 0) (hs : a4.size < 2 ^ 62) :
    Calls Tryd.prog 14 #[.agg #[.int .i64 a1, .int .i64 a2, .int .i64 a3, .string a4, .string a5]] w fun e w' => e = .returned (.agg #[.int .i64 a1, .int .i64 a2, .int .i64 a3, .string ⟨(a4.data.toList ++ [46, 48]).toArray⟩, .string ⟨#[]⟩]) ∧ w.grownBy w' none := by
  have c1 := emp_f h4
  obtain ⟨X, hX⟩ : ∃ X : ByteArray, X = ⟨(a4.data.toList ++ [46, 48]).toArray⟩ := ⟨_, rfl⟩
  have ad : ∀ wx, (Op.stringOp .add a4 ⟨#[46, 48]⟩).run Tryd.prog wx = .ok (.string X) wx := fun wx => by rw [hX]; exact add_dot0 a4 wx hs
  rw [← hX]
  clear hX h4
  go_enter Tryd.func14, Tryd.ntmps14
  go_wp2
  exact bodyPost_ret (results_cell_row rfl _ _ (w.heap.size + 1) 23 _ (0, 0) _ rfl (rowR2 w _ _) Tryd.underlying23 rfl (by kernel_rfl)) rfl ⟨rfl, gb_alloc (gb_alloc (gb_refl w none) _) _⟩

set_option maxHeartbeats 800000 in
theorem rnext_s (a1 a2 a3 : Int) (a4 a5 : ByteArray) (w : World) (h4 : a4.size = 0) (h3 : a3 < 4611686018427387904) (h0 : -9223372036854775808 ≤ a3) :
    Calls Tryd.prog 14 #[.agg #[.int .i64 a1, .int .i64 a2, .int .i64 a3, .string a4, .string a5]] w fun e w' => e = .returned (.agg #[.int .i64 a1, .int .i64 a2, .int .i64 (a3 + 1), .string ⟨#[48]⟩, .string ⟨#[]⟩]) ∧ w.grownBy w' none := by
  have c1 := emp_t h4
  have wr : IntKind.i64.wrap (a3 + 1) = a3 + 1 := by rw [IntKind.wrap_i64]; omega
  clear h4
  go_enter Tryd.func14, Tryd.ntmps14
  go_wp2
  exact bodyPost_ret (results_cell_row rfl _ _ (w.heap.size + 1) 23 _ (0, 0) _ rfl (rowR2 w _ _) Tryd.underlying23 rfl (by kernel_rfl)) rfl ⟨rfl, gb_alloc (gb_alloc (gb_refl w none) _) _⟩

set_option maxHeartbeats 800000 in
theorem rnext_g (a1 a2 a3 : Int) (a4 a5 : ByteArray) (w : World) (h4 : a4.size = 0) (h3 : ¬ a3 < 4611686018427387904) :
    Calls Tryd.prog 14 #[.agg #[.int .i64 a1, .int .i64 a2, .int .i64 a3, .string a4, .string a5]] w fun e w' => e = .returned (.agg #[.int .i64 a1, .int .i64 a2, .int .i64 a3, .string ⟨#[48]⟩, .string ⟨#[]⟩]) ∧ w.grownBy w' none := by
  have c1 := emp_t h4
  clear h4
  go_enter Tryd.func14, Tryd.ntmps14
  go_wp2
  exact bodyPost_ret (results_cell_row rfl _ _ (w.heap.size + 1) 23 _ (0, 0) _ rfl (rowR2 w _ _) Tryd.underlying23 rfl (by kernel_rfl)) rfl ⟨rfl, gb_alloc (gb_alloc (gb_refl w none) _) _⟩
end Go.Proofs.YtlfekpgoibgplaaDoor
