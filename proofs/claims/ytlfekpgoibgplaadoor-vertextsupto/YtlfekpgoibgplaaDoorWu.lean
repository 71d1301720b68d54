/-
  Versions written by the document; walked.
-/
import Derived.Test.YtlfekpgoibgplaaDoorWt
namespace Go.Proofs.YtlfekpgoibgplaaDoor
open Go.RowKit
set_option linter.unusedVariables false

theorem opt_step2 (c : UInt8) (X : List UInt8) (a : ByteArray) (h : X.length + a.size + 1 ≤ 9223372036854775807) :
    ∃ (Z Y : List UInt8), (∀ wx, (Op.stringOp .add ⟨X.toArray⟩ ⟨#[c]⟩).run Tryd.prog wx = .ok (.string ⟨Z.toArray⟩) wx) ∧ (∀ wx, (Op.stringOp .add ⟨Z.toArray⟩ a).run Tryd.prog wx = .ok (.string ⟨Y.toArray⟩) wx) ∧ Y = X ++ c :: a.data.toList ∧ Y.length = X.length + a.size + 1 := by
  have ea : a = ⟨a.data.toList.toArray⟩ := by cases a; simp
  have la : a.data.toList.length = a.size := by simp
  refine ⟨X ++ [c], X ++ [c] ++ a.data.toList, fun wx => add_lists X [c] wx (by simp only [List.length_cons, List.length_nil]; omega), fun wx => ?_, by simp, by simp only [List.length_append, List.length_cons, List.length_nil, la]; omega⟩
  conv => lhs; rw [ea]
  exact add_lists (X ++ [c]) a.data.toList wx (by simp only [List.length_append, List.length_cons, List.length_nil, la]; omega)

set_option maxHeartbeats 1600000 in
theorem rtext_any (a1 a2 a3 : Int) (a4 a5 : ByteArray) (w : World) (b1 : -9223372036854775808 ≤ a1 ∧ a1 ≤ 9223372036854775807) (b2 : -9223372036854775808 ≤ a2 ∧ a2 ≤ 9223372036854775807) (b3 : -9223372036854775808 ≤ a3 ∧ a3 ≤ 9223372036854775807) (h4 : a4.size < 2 ^ 60) (h5 : a5.size < 2 ^ 60) :
    Calls Tryd.prog 12 #[.agg #[.int .i64 a1, .int .i64 a2, .int .i64 a3, .string a4, .string a5]] w fun e w' => e = .returned (.string ⟨(textV ⟨a1, a2, a3, a4.data.toList, a5.data.toList⟩).toArray⟩) ∧ w.grownBy w' none := by
  obtain ⟨T1, T2, T3, X1, X2, X3, X4, e1, e2, e3, d1, d2, d3, d4, hl, hx⟩ := text_steps a1 a2 a3 a4.data.toList a5.data.toList b1 b2 b3 (by simpa using h4) (by simpa using h5)
  have I1 : Hid (∀ w, Calls Tryd.prog 22 #[.int .i64 a1] w fun e w' => e = .returned (.string ⟨T1.toArray⟩) ∧ Below w.heap.size w w') := fun w => by rw [e1]; exact decimal_any a1 w b1.1 b1.2
  have I2 : Hid (∀ w, Calls Tryd.prog 22 #[.int .i64 a2] w fun e w' => e = .returned (.string ⟨T2.toArray⟩) ∧ Below w.heap.size w w') := fun w => by rw [e2]; exact decimal_any a2 w b2.1 b2.2
  have I3 : Hid (∀ w, Calls Tryd.prog 22 #[.int .i64 a3] w fun e w' => e = .returned (.string ⟨T3.toArray⟩) ∧ Below w.heap.size w w') := fun w => by rw [e3]; exact decimal_any a3 w b3.1 b3.2
  obtain ⟨R, hR⟩ : ∃ R, R = textV ⟨a1, a2, a3, a4.data.toList, a5.data.toList⟩ := ⟨_, rfl⟩
  rw [← hR]
  have HR : Hid (R = X4 ++ (optT 45 a4.data.toList ++ optT 43 a5.data.toList)) := by show R = _; rw [hR, hx]
  have GB : Hid (∀ {u v : World}, Below u.heap.size u v → u.grownBy v none) := fun h => ⟨h.os, h.tape, h.output, h.size, fun k hk _ => h.block k hk⟩
  clear e1 e2 e3 hx b1 b2 b3 hR
  go_enter Tryd.func12, Tryd.ntmps12
  go_wp2_with (go_at_call 22; refine (I1.out _).mono ?_)
  rintro e w1 ⟨rfl, hb⟩
  obtain ⟨A, hA⟩ : ∃ A, w.heap.size = A := ⟨_, rfl⟩
  have STa : Hid (St A a1 a2 a3 a4 a5 w1) := by
    show St A a1 a2 a3 a4 a5 w1
    rw [← hA]; exact (st_row (t := 23) (heap_alloc_new w _)).grow (GB.out hb)
  have HG : Hid (w.grownBy w1 none) := gb_trans (gb_alloc (gb_refl w none) _) (GB.out hb)
  rw [hA]
  clear hA hb
  obtain ⟨s1, s2, s3, s4, s5⟩ := STa.out
  go_wp2_with (go_at_call 22; refine (I2.out _).mono ?_)
  rintro e w2 ⟨rfl, hb⟩
  replace STa : Hid (St A a1 a2 a3 a4 a5 w2) := STa.out.grow (GB.out hb)
  replace HG : Hid (w.grownBy w2 none) := gb_trans HG.out (GB.out hb)
  clear hb s1 s2 s3 s4 s5
  obtain ⟨s1, s2, s3, s4, s5⟩ := STa.out
  go_wp2_with (go_at_call 22; refine (I3.out _).mono ?_)
  rintro e w3 ⟨rfl, hb⟩
  replace STa : Hid (St A a1 a2 a3 a4 a5 w3) := STa.out.grow (GB.out hb)
  replace HG : Hid (w.grownBy w3 none) := gb_trans HG.out (GB.out hb)
  clear hb s1 s2 s3 s4 s5
  obtain ⟨-, -, -, s4, s5⟩ := STa.out
  obtain ⟨Z4, Y4, p4, y4, hY4, hY4l⟩ := opt_step2 45 X4 a4 (by omega)
  by_cases z4 : a4.size = 0
  · have e4 := emp_t2 z4
    have o4 : optT 45 a4.data.toList = [] := by rw [List.length_eq_zero_iff.1 (show a4.data.toList.length = 0 by simpa using z4)]; rfl
    have HR4 : Hid (R = X4 ++ optT 43 a5.data.toList) := by show R = _; rw [HR.out, o4, List.nil_append]
    obtain ⟨Z5, Y5, p5, y5, hY5, hY5l⟩ := opt_step2 43 X4 a5 (by omega)
    clear p4 y4 hY4 hY4l o4 z4
    by_cases z5 : a5.size = 0
    · have e5 := emp_t2 z5
      have o5 : optT 43 a5.data.toList = [] := by rw [List.length_eq_zero_iff.1 (show a5.data.toList.length = 0 by simpa using z5)]; rfl
      have HZ : Hid (R = X4) := by show R = _; rw [HR4.out, o5, List.append_nil]
      clear o5 z5 p5 y5 hY5 hY5l
      go_wp2
      go_ret
      exact ⟨ret_str HZ.out.symm, HG.out⟩
    · have e5 := emp_f2 z5
      have o5 : X4 ++ optT 43 a5.data.toList = Y5 := by unfold optT; rw [if_neg (fun e => z5 (by show a5.data.size = 0; rw [← Array.length_toList, e]; rfl)), hY5]
      have HZ : Hid (R = Y5) := by show R = _; rw [HR4.out, o5]
      clear o5 z5 hY5 hY5l
      go_wp2
      go_ret
      exact ⟨ret_str HZ.out.symm, HG.out⟩
  · have e4 := emp_f2 z4
    have o4 : X4 ++ (optT 45 a4.data.toList ++ optT 43 a5.data.toList) = Y4 ++ optT 43 a5.data.toList := by
      rw [← List.append_assoc, hY4]; congr 1; unfold optT; rw [if_neg (fun e => z4 (by show a4.data.size = 0; rw [← Array.length_toList, e]; rfl))]
    have HR4 : Hid (R = Y4 ++ optT 43 a5.data.toList) := by show R = _; rw [HR.out, o4]
    obtain ⟨Z5, Y5, p5, y5, hY5, hY5l⟩ := opt_step2 43 Y4 a5 (by omega)
    clear hY4 hY4l o4 z4
    by_cases z5 : a5.size = 0
    · have e5 := emp_t2 z5
      have o5 : optT 43 a5.data.toList = [] := by rw [List.length_eq_zero_iff.1 (show a5.data.toList.length = 0 by simpa using z5)]; rfl
      have HZ : Hid (R = Y4) := by show R = _; rw [HR4.out, o5, List.append_nil]
      clear o5 z5 p5 y5 hY5 hY5l
      go_wp2
      go_ret
      exact ⟨ret_str HZ.out.symm, HG.out⟩
    · have e5 := emp_f2 z5
      have o5 : Y4 ++ optT 43 a5.data.toList = Y5 := by unfold optT; rw [if_neg (fun e => z5 (by show a5.data.size = 0; rw [← Array.length_toList, e]; rfl)), hY5]
      have HZ : Hid (R = Y5) := by show R = _; rw [HR4.out, o5]
      clear o5 z5 hY5 hY5l
      go_wp2
      go_ret
      exact ⟨ret_str HZ.out.symm, HG.out⟩

end Go.Proofs.YtlfekpgoibgplaaDoor
