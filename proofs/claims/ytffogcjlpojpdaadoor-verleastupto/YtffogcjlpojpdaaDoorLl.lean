/-
  VerLeast, walked.
-/
import Derived.Test.YtffogcjlpojpdaaDoorRq
namespace Go.Proofs.YtffogcjlpojpdaaDoor
open Go.RowKit
set_option linter.unusedVariables false

theorem keep1 {A : Nat} {a1 a2 a3 : Int} {a4 a5 : ByteArray} {w w' : World} (hg : w.grownBy w' none) (h : w.cell? ⟨A, 0, none⟩ = some (.int .i64 a1) ∧ w.cell? ⟨A, 1, none⟩ = some (.int .i64 a2) ∧ w.cell? ⟨A, 2, none⟩ = some (.int .i64 a3) ∧ w.cell? ⟨A, 3, none⟩ = some (.string a4) ∧ w.cell? ⟨A, 4, none⟩ = some (.string a5)) : w'.cell? ⟨A, 0, none⟩ = some (.int .i64 a1) ∧ w'.cell? ⟨A, 1, none⟩ = some (.int .i64 a2) ∧ w'.cell? ⟨A, 2, none⟩ = some (.int .i64 a3) ∧ w'.cell? ⟨A, 3, none⟩ = some (.string a4) ∧ w'.cell? ⟨A, 4, none⟩ = some (.string a5) := by
  obtain ⟨h1, h2, h3, h4, h5⟩ := h
  exact ⟨hg.cell h1 (by simp), hg.cell h2 (by simp), hg.cell h3 (by simp), hg.cell h4 (by simp), hg.cell h5 (by simp)⟩

set_option maxHeartbeats 1600000 in
theorem leastLaw (a1 a2 a3 : Int) (a4 a5 : ByteArray) (w : World) (ha : a4.size ≤ 1048576) (hb : a5.size ≤ 1048576) :
    Calls Tryd.prog 3 #[.agg #[.int .i64 a1, .int .i64 a2, .int .i64 a3, .string a4, .string a5]] w fun e w' => e = .returned (.bool true) ∧ w.grownBy w' none := by
  obtain ⟨s, hs⟩ : ∃ s, s = soundV ⟨a1, a2, a3, a4.data.toList, a5.data.toList⟩ := ⟨_, rfl⟩
  obtain ⟨c, hc⟩ : ∃ c, c = verC ⟨0, 0, 0, [48]⟩ ⟨a1, a2, a3, a4.data.toList⟩ := ⟨_, rfl⟩
  have HM : Hid (s = true → c ≤ 0) := by
    intro h
    rw [h] at hs
    have hs' := hs.symm
    simp only [soundV, Bool.and_eq_true, bound_iff] at hs'
    rw [hc]
    exact ver_least _ hs'.1.1 hs'.2.1.1 hs'.2.2.1.1
  have CS : Hid (∀ w, Calls Tryd.prog 7 #[.agg #[.int .i64 a1, .int .i64 a2, .int .i64 a3, .string a4, .string a5]] w fun e w' => e = .returned (.bool s) ∧ w.grownBy w' none) := fun w => by rw [hs]; exact sound_any a1 a2 a3 a4 a5 w ha hb
  have Va : Hid (∀ w, Calls Tryd.prog 9 #[.agg #[.int .i64 a1, .int .i64 a2, .int .i64 a3, .string a4, .string a5]] w fun e w' => e = .returned (.agg #[.int .i64 a1, .int .i64 a2, .int .i64 a3, .string a4, .string a5]) ∧ w.grownBy w' none) := fun w => vers_any _ _ _ _ _ w
  have Cc : Hid (∀ w, Calls Tryd.prog 8 #[.agg #[.int .i64 0, .int .i64 0, .int .i64 0, .string ⟨#[48]⟩, .string ⟨#[]⟩], .agg #[.int .i64 a1, .int .i64 a2, .int .i64 a3, .string a4, .string a5]] w fun e w' => e = .returned (.int .i64 c) ∧ w.grownBy w' none) := fun w => by rw [hc]; exact compare_any 0 0 0 a1 a2 a3 ⟨#[48]⟩ ⟨#[]⟩ a4 a5 w (by decide) (by omega)
  have Ck : Hid (∀ w, Calls Tryd.prog 8 #[.agg #[.int .i64 0, .int .i64 0, .int .i64 0, .string ⟨#[48]⟩, .string ⟨#[]⟩], .agg #[.int .i64 0, .int .i64 0, .int .i64 0, .string ⟨#[]⟩, .string ⟨#[]⟩]] w fun e w' => e = .returned (.int .i64 (-1)) ∧ w.grownBy w' none) := fun w => by
    have h := compare_any 0 0 0 0 0 0 ⟨#[48]⟩ ⟨#[]⟩ ⟨#[]⟩ ⟨#[]⟩ w (by decide) (by decide)
    rw [show verC ⟨0, 0, 0, (⟨#[48]⟩ : ByteArray).data.toList⟩ ⟨0, 0, 0, (⟨#[]⟩ : ByteArray).data.toList⟩ = -1 from ver_bare] at h; exact h
  have GA : Hid (∀ o, w.grownBy (w.alloc o) none) := fun o => gb_alloc (gb_refl w none) o
  clear hs hc ha hb
  go_enter Tryd.func3, Tryd.ntmps3
  go_wp2_with (go_at_call 7; refine (CS.out _).mono ?_)
  rintro e W ⟨rfl, hg⟩
  obtain ⟨A, hA⟩ : ∃ A, w.heap.size = A := ⟨_, rfl⟩
  have STa : Hid (St A a1 a2 a3 a4 a5 W) := by
    show St A a1 a2 a3 a4 a5 W
    rw [← hA]
    exact (st_row (t := 23) (heap_alloc_new w _)).grow hg
  have HG : Hid (w.grownBy W none) := gb_trans (GA.out _) hg
  rw [hA]
  clear hA hg
  obtain ⟨s1, s2, s3, s4, s5⟩ := STa.out
  go_wp2_with (first | (go_at_call 9; refine (Va.out _).mono ?_; rintro e w3 ⟨rfl, hg3⟩) | (go_at_call_of 8 a4; refine (Cc.out _).mono ?_; rintro e w4 ⟨rfl, hg4⟩) | (go_at_call 8; refine (Ck.out _).mono ?_; rintro e w5 ⟨rfl, hg5⟩))
  all_goals
    go_ret
    refine ⟨ret_bool ?_, gb_trans (gb_trans (gb_trans HG.out hg3) hg4) hg5⟩
    first
      | rfl
      | exact decide_eq_true (HM.out (by assumption))
end Go.Proofs.YtffogcjlpojpdaaDoor
