/-
  VerCompares, walked.
-/
import Derived.Test.YtlfekpgoibgplaaDoorRc
namespace Go.Proofs.YtlfekpgoibgplaaDoor
open Go.RowKit
set_option linter.unusedVariables false
theorem below_gb {w w' : World} (h : Below w.heap.size w w') : w.grownBy w' none := ⟨h.os, h.tape, h.output, h.size, fun k hk _ => h.block k hk⟩

set_option maxHeartbeats 1600000 in
theorem comparesLaw (a1 a2 a3 b1 b2 b3 : Int) (a4 a5 b4 b5 : ByteArray) (w : World) (ha : a4.size ≤ 1048576) (hb : b4.size ≤ 1048576) :
    Calls Tryd.prog 4 #[.agg #[.int .i64 a1, .int .i64 a2, .int .i64 a3, .string a4, .string a5], .agg #[.int .i64 b1, .int .i64 b2, .int .i64 b3, .string b4, .string b5]] w fun e w' => e = .returned (.bool true) ∧ w.grownBy w' none := by
  obtain ⟨x, hx⟩ : ∃ x, x = verC ⟨a1, a2, a3, a4.data.toList⟩ ⟨b1, b2, b3, b4.data.toList⟩ := ⟨_, rfl⟩
  have Cx : Hid (∀ w, Calls Tryd.prog 15 #[.agg #[.int .i64 a1, .int .i64 a2, .int .i64 a3, .string a4, .string a5], .agg #[.int .i64 b1, .int .i64 b2, .int .i64 b3, .string b4, .string b5]] w fun e w' => e = .returned (.int .i64 x) ∧ w.grownBy w' none) := fun w => by rw [hx]; exact compare_any _ _ _ _ _ _ _ _ _ _ w (by omega) (by omega)
  have Cr : Hid (∀ w, Calls Tryd.prog 16 #[.agg #[.int .i64 a1, .int .i64 a2, .int .i64 a3, .string a4, .string a5], .agg #[.int .i64 b1, .int .i64 b2, .int .i64 b3, .string b4, .string b5]] w fun e w' => e = .returned (.int .i64 x) ∧ w.grownBy w' none) := fun w => by
    rw [hx]
    refine (rcompare_any a1 a2 a3 b1 b2 b3 a4 a5 b4 b5 w ha hb).mono ?_
    rintro e w' ⟨rfl, h⟩
    exact ⟨rfl, below_gb h⟩
  have Va : Hid (∀ w, Calls Tryd.prog 9 #[.agg #[.int .i64 a1, .int .i64 a2, .int .i64 a3, .string a4, .string a5]] w fun e w' => e = .returned (.agg #[.int .i64 a1, .int .i64 a2, .int .i64 a3, .string a4, .string a5]) ∧ w.grownBy w' none) := fun w => vers_any _ _ _ _ _ w
  have Vb : Hid (∀ w, Calls Tryd.prog 9 #[.agg #[.int .i64 b1, .int .i64 b2, .int .i64 b3, .string b4, .string b5]] w fun e w' => e = .returned (.agg #[.int .i64 b1, .int .i64 b2, .int .i64 b3, .string b4, .string b5]) ∧ w.grownBy w' none) := fun w => vers_any _ _ _ _ _ w
  clear hx ha hb
  go_enter Tryd.func4, Tryd.ntmps4
  go_wp2
  obtain ⟨W, hW⟩ : ∃ W, ((w.alloc (.cells #[.int .i64 a1, .int .i64 a2, .int .i64 a3, .string a4, .string a5] 23)).alloc (.cells #[.int .i64 b1, .int .i64 b2, .int .i64 b3, .string b4, .string b5] 23)) = W := ⟨_, rfl⟩
  rw [hW]
  have HG : Hid (w.grownBy W none) := by show w.grownBy W none; rw [← hW]; exact gb_alloc (gb_alloc (gb_refl w none) _) _
  obtain ⟨A, hA⟩ : ∃ A, w.heap.size = A := ⟨_, rfl⟩
  have STa : Hid (St A a1 a2 a3 a4 a5 W) := by
    show St A a1 a2 a3 a4 a5 W
    rw [← hW, ← hA]
    refine st_row (t := 23) ?_
    rw [Lib.alloc_old _ _ _ (by simp)]
    exact heap_alloc_new w _
  have STb : Hid (St (A + 1) b1 b2 b3 b4 b5 W) := by
    show St (A + 1) b1 b2 b3 b4 b5 W
    rw [← hW, ← hA]
    refine st_row (t := 23) ?_
    have := heap_alloc_new (w.alloc (.cells #[.int .i64 a1, .int .i64 a2, .int .i64 a3, .string a4, .string a5] 23)) (.cells #[.int .i64 b1, .int .i64 b2, .int .i64 b3, .string b4, .string b5] 23)
    simpa using this
  rw [hA]
  clear hW hA
  obtain ⟨s1, s2, s3, s4, s5⟩ := STa.out
  obtain ⟨s6, s7, s8, s9, s10⟩ := STb.out
  go_region_held3 (fun w' => w'.cell? ⟨A, 0, none⟩ = some (.int .i64 a1) ∧ w'.cell? ⟨A, 1, none⟩ = some (.int .i64 a2) ∧ w'.cell? ⟨A, 2, none⟩ = some (.int .i64 a3) ∧ w'.cell? ⟨A, 3, none⟩ = some (.string a4) ∧ w'.cell? ⟨A, 4, none⟩ = some (.string a5) ∧ w'.cell? ⟨A + 1, 0, none⟩ = some (.int .i64 b1) ∧ w'.cell? ⟨A + 1, 1, none⟩ = some (.int .i64 b2) ∧ w'.cell? ⟨A + 1, 2, none⟩ = some (.int .i64 b3) ∧ w'.cell? ⟨A + 1, 3, none⟩ = some (.string b4) ∧ w'.cell? ⟨A + 1, 4, none⟩ = some (.string b5)) ((first | exact keep2 (by assumption) (by assumption) | (refine ⟨?_, ?_, ?_, ?_, ?_, ?_, ?_, ?_, ?_, ?_⟩ <;> (refine World.grownBy.cell (by assumption) ?_ (by simp); assumption)) | go_keep)) (first | (go_at_call_of 9 (Value.string a4); refine (Va.out _).mono ?_; rintro e w3 ⟨rfl, hg3⟩) | (go_at_call_of 9 (Value.string b4); refine (Vb.out _).mono ?_; rintro e w4 ⟨rfl, hg4⟩) | (go_at_call 15; refine (Cx.out _).mono ?_; rintro e W1 ⟨rfl, hg5⟩))
  have hgs : W.grownBy W1 none := gb_trans (gb_trans (gb_undrew hg3) hg4) hg5
  replace HG : Hid (w.grownBy W1 none) := gb_trans HG.out hgs
  replace STa : Hid (St A a1 a2 a3 a4 a5 W1) := STa.out.grow hgs
  replace STb : Hid (St (A + 1) b1 b2 b3 b4 b5 W1) := STb.out.grow hgs
  clear hgs s1 s2 s3 s4 s5 s6 s7 s8 s9 s10 hg3 hg4 hg5
  obtain ⟨s1, s2, s3, s4, s5⟩ := STa.out
  obtain ⟨s6, s7, s8, s9, s10⟩ := STb.out
  go_wp2_with (first | (go_at_call 16; refine (Cr.out _).mono ?_; rintro e W2 ⟨rfl, hg5⟩))
  go_ret
  exact ⟨rfl, gb_trans HG.out hg5⟩
end Go.Proofs.YtlfekpgoibgplaaDoor
