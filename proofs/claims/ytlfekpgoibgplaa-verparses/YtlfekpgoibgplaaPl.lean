/-
  VerParses, walked.
-/
import Derived.Test.YtlfekpgoibgplaaXe
import Derived.Deep.RegionHeld3
namespace Go.Proofs.Ytlfekpgoibgplaa
open Go.RowKit
set_option linter.unusedVariables false

set_option maxHeartbeats 400000 in
theorem lnum_any (n : Int) (w : World) : Calls Try.prog 7 #[.int .i64 n] w fun e w' => e = .returned (.int .i64 n) ∧ w' = w := by
  go_enter Try.func7, Try.ntmps7
  go_wp2
  go_ret
  exact ⟨rfl, rfl⟩
theorem lnum_gb (n : Int) (w : World) : Calls Try.prog 7 #[.int .i64 n] w fun e w' => e = .returned (.int .i64 n) ∧ w.grownBy w' none := by
  refine (lnum_any n w).mono ?_
  rintro e w' ⟨rfl, rfl⟩
  exact ⟨rfl, gb_refl _ _⟩

set_option maxRecDepth 100000 in
set_option maxHeartbeats 1600000 in
theorem parsesLaw (s : ByteArray) (w : World) (hs : s.size < 2 ^ 62) :
    Calls Try.prog 3 #[.string s] w fun e w' => e = .returned (.bool true) ∧ w.grownBy w' none := by
  obtain ⟨E, Q, x1, x2, x3, P0, B0, hX⟩ : ∃ E Q x1 x2 x3 P B, parseV s.data.toList = (E, Q, ⟨x1, x2, x3, P, B⟩) := ⟨_, _, _, _, _, _, _, rfl⟩
  obtain ⟨P, hP⟩ : ∃ P : ByteArray, P = ⟨P0.toArray⟩ := ⟨_, rfl⟩
  obtain ⟨B, hB⟩ : ∃ B : ByteArray, B = ⟨B0.toArray⟩ := ⟨_, rfl⟩
  have CP : Hid (∀ w, Calls Try.prog 4 #[.string s] w fun e w' => e = .returned (.tuple #[.agg #[.int .i64 x1, .int .i64 x2, .int .i64 x3, .string P, .string B], .int .i64 E, .int .i64 (Q : Nat)]) ∧ w.grownBy w' none) := fun w => by
    have := parse_any s w hs
    rw [hX] at this; rw [hP, hB]; exact this
  have CR : Hid (∀ w, Calls Try.prog 5 #[.string s] w fun e w' => e = .returned (.tuple #[.agg #[.int .i64 x1, .int .i64 x2, .int .i64 x3, .string P, .string B], .int .i64 E, .int .i64 (Q : Nat)]) ∧ w.grownBy w' none) := fun w => by
    have := readv_any s w hs
    rw [hX] at this; rw [hP, hB]; exact this
  have Va : Hid (∀ w, Calls Try.prog 6 #[.agg #[.int .i64 x1, .int .i64 x2, .int .i64 x3, .string P, .string B]] w fun e w' => e = .returned (.agg #[.int .i64 x1, .int .i64 x2, .int .i64 x3, .string P, .string B]) ∧ w.grownBy w' none) := fun w => vers_any _ _ _ _ _ w
  have CL : Hid (∀ w, Calls Try.prog 7 #[.int .i64 E] w fun e w' => e = .returned (.int .i64 E) ∧ w.grownBy w' none) := fun w => lnum_gb E w
  clear hX hP hB hs
  go_enter Try.func3, Try.ntmps3
  go_wp2_with (go_at_call 4; refine (CP.out _).mono ?_)
  rintro e w1 ⟨rfl, hg⟩
  have HG : Hid (w.grownBy w1 none) := hg
  clear hg
  obtain ⟨A, hA⟩ : ∃ A, w1.heap.size = A := ⟨_, rfl⟩
  obtain ⟨W1, hW1⟩ : ∃ W, w1.alloc (.cells #[.int .i64 x1, .int .i64 x2, .int .i64 x3, .string P, .string B] 23) = W := ⟨_, rfl⟩
  go_wp2_with (go_at_call 5; refine (CR.out _).mono ?_)
  rintro e w2 ⟨rfl, hg⟩
  have hlt1 : A < W1.heap.size := by rw [← hW1, ← hA]; simp
  have STv : Hid (St A x1 x2 x3 P B w2) := by
    have h1 : St A x1 x2 x3 P B W1 := by
      rw [← hW1, ← hA]
      exact st_row (t := 23) (heap_alloc_new w1 _)
    exact h1.grow hg
  have HG2 : Hid (w.grownBy w2 none) := by
    refine gb_trans (gb_trans HG.out ?_) hg
    rw [← hW1]; exact gb_alloc (gb_refl w1 none) _
  clear hg hlt1
  go_wp2
  obtain ⟨N, hN⟩ : ∃ N, w2.heap.size = N := ⟨_, rfl⟩
  obtain ⟨W, hW⟩ : ∃ W, w2.alloc (.cells #[.int .i64 x1, .int .i64 x2, .int .i64 x3, .string P, .string B] 27) = W := ⟨_, rfl⟩
  have hg : w2.grownBy W none := by rw [← hW]; exact gb_alloc (gb_refl w2 none) _
  have STn : Hid (St N x1 x2 x3 P B W) := by
    show St N x1 x2 x3 P B W
    rw [← hW, ← hN]
    exact st_row (t := 27) (heap_alloc_new w2 _)
  try rw [hW]
  try rw [hN]
  try rw [hA]
  replace STv : Hid (St A x1 x2 x3 P B W) := STv.out.grow hg
  replace HG : Hid (w.grownBy W none) := gb_trans HG2.out hg
  clear hg hW hN hA hW1 HG2
  obtain ⟨s1, s2, s3, s4, s5⟩ := STv.out
  obtain ⟨s6, s7, s8, s9, s10⟩ := STn.out
  have q1 : (P.toList == P.toList) = true := by simp
  have q2 : (B.toList == B.toList) = true := by simp
  go_region_held3 (fun w' => w'.cell? ⟨A, 0, none⟩ = some (.int .i64 x1) ∧ w'.cell? ⟨A, 1, none⟩ = some (.int .i64 x2) ∧ w'.cell? ⟨A, 2, none⟩ = some (.int .i64 x3) ∧ w'.cell? ⟨A, 3, none⟩ = some (.string P) ∧ w'.cell? ⟨A, 4, none⟩ = some (.string B) ∧ w'.cell? ⟨N, 0, none⟩ = some (.int .i64 x1) ∧ w'.cell? ⟨N, 1, none⟩ = some (.int .i64 x2) ∧ w'.cell? ⟨N, 2, none⟩ = some (.int .i64 x3) ∧ w'.cell? ⟨N, 3, none⟩ = some (.string P) ∧ w'.cell? ⟨N, 4, none⟩ = some (.string B)) ((first | exact keep2 (by assumption) (by assumption) | (refine ⟨?_, ?_, ?_, ?_, ?_, ?_, ?_, ?_, ?_, ?_⟩ <;> (refine World.grownBy.cell (by assumption) ?_ (by simp); assumption)) | go_keep)) (first | (go_at_call 6; refine (Va.out _).mono ?_; rintro e u1 ⟨rfl, hg1⟩) | (go_at_call 7; refine (CL.out _).mono ?_; rintro e u2 ⟨rfl, hg2⟩))
  go_wp2
  go_ret
  exact ⟨rfl, gb_trans HG.out (gb_trans (gb_undrew hg1) hg2)⟩
end Go.Proofs.Ytlfekpgoibgplaa
