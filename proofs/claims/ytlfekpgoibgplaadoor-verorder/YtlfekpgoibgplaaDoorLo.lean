/-
  VerOrder, walked.
-/
import Derived.Test.YtlfekpgoibgplaaDoorLk
import Derived.Test.YtlfekpgoibgplaaDoorCe
namespace Go.Proofs.YtlfekpgoibgplaaDoor
open Go.RowKit
set_option linter.unusedVariables false

set_option maxHeartbeats 1600000 in
theorem orderLaw (a1 a2 a3 b1 b2 b3 c1 c2 c3 : Int) (a4 a5 b4 b5 c4 c5 d : ByteArray) (w : World) (ha : a4.size < 2 ^ 62) (hb : b4.size < 2 ^ 62) (hc : c4.size < 2 ^ 62) :
    Calls Tryd.prog 6 #[.agg #[.int .i64 a1, .int .i64 a2, .int .i64 a3, .string a4, .string a5], .agg #[.int .i64 b1, .int .i64 b2, .int .i64 b3, .string b4, .string b5], .agg #[.int .i64 c1, .int .i64 c2, .int .i64 c3, .string c4, .string c5], .string d] w fun e w' => e = .returned (.bool true) ∧ w.grownBy w' none := by
  obtain ⟨x, hx⟩ : ∃ x, x = verC ⟨a1, a2, a3, a4.data.toList⟩ ⟨b1, b2, b3, b4.data.toList⟩ := ⟨_, rfl⟩
  have Cx : Hid (∀ w, Calls Tryd.prog 15 #[.agg #[.int .i64 a1, .int .i64 a2, .int .i64 a3, .string a4, .string a5], .agg #[.int .i64 b1, .int .i64 b2, .int .i64 b3, .string b4, .string b5]] w fun e w' => e = .returned (.int .i64 x) ∧ w.grownBy w' none) := fun w => by rw [hx]; exact compare_any _ _ _ _ _ _ _ _ _ _ w ha hb
  obtain ⟨y, hy⟩ : ∃ y, y = verC ⟨b1, b2, b3, b4.data.toList⟩ ⟨a1, a2, a3, a4.data.toList⟩ := ⟨_, rfl⟩
  have Cy : Hid (∀ w, Calls Tryd.prog 15 #[.agg #[.int .i64 b1, .int .i64 b2, .int .i64 b3, .string b4, .string b5], .agg #[.int .i64 a1, .int .i64 a2, .int .i64 a3, .string a4, .string a5]] w fun e w' => e = .returned (.int .i64 y) ∧ w.grownBy w' none) := fun w => by rw [hy]; exact compare_any _ _ _ _ _ _ _ _ _ _ w hb ha
  obtain ⟨p, hp⟩ : ∃ p, p = verC ⟨b1, b2, b3, b4.data.toList⟩ ⟨c1, c2, c3, c4.data.toList⟩ := ⟨_, rfl⟩
  have Cp : Hid (∀ w, Calls Tryd.prog 15 #[.agg #[.int .i64 b1, .int .i64 b2, .int .i64 b3, .string b4, .string b5], .agg #[.int .i64 c1, .int .i64 c2, .int .i64 c3, .string c4, .string c5]] w fun e w' => e = .returned (.int .i64 p) ∧ w.grownBy w' none) := fun w => by rw [hp]; exact compare_any _ _ _ _ _ _ _ _ _ _ w hb hc
  obtain ⟨q, hq⟩ : ∃ q, q = verC ⟨a1, a2, a3, a4.data.toList⟩ ⟨c1, c2, c3, c4.data.toList⟩ := ⟨_, rfl⟩
  have Cq : Hid (∀ w, Calls Tryd.prog 15 #[.agg #[.int .i64 a1, .int .i64 a2, .int .i64 a3, .string a4, .string a5], .agg #[.int .i64 c1, .int .i64 c2, .int .i64 c3, .string c4, .string c5]] w fun e w' => e = .returned (.int .i64 q) ∧ w.grownBy w' none) := fun w => by rw [hq]; exact compare_any _ _ _ _ _ _ _ _ _ _ w ha hc
  have Cz : Hid (∀ w, Calls Tryd.prog 15 #[.agg #[.int .i64 a1, .int .i64 a2, .int .i64 a3, .string a4, .string d], .agg #[.int .i64 a1, .int .i64 a2, .int .i64 a3, .string a4, .string a5]] w fun e w' => e = .returned (.int .i64 0) ∧ w.grownBy w' none) := fun w => by
    have h := compare_any a1 a2 a3 a1 a2 a3 a4 d a4 a5 w ha ha
    rw [good_ver.self] at h; exact h
  have Cw : Hid (∀ w, Calls Tryd.prog 15 #[.agg #[.int .i64 a1, .int .i64 a2, .int .i64 a3, .string a4, .string d], .agg #[.int .i64 b1, .int .i64 b2, .int .i64 b3, .string b4, .string b5]] w fun e w' => e = .returned (.int .i64 x) ∧ w.grownBy w' none) := fun w => by rw [hx]; exact compare_any _ _ _ _ _ _ _ _ _ _ w ha hb
  have Ck : Hid (∀ w, Calls Tryd.prog 15 #[.agg #[.int .i64 0, .int .i64 0, .int .i64 0, .string ⟨#[]⟩, .string ⟨#[]⟩], .agg #[.int .i64 0, .int .i64 0, .int .i64 1, .string ⟨#[]⟩, .string ⟨#[]⟩]] w fun e w' => e = .returned (.int .i64 (-1)) ∧ w.grownBy w' none) := fun w => by
    have h := compare_any 0 0 0 0 0 1 ⟨#[]⟩ ⟨#[]⟩ ⟨#[]⟩ ⟨#[]⟩ w (by decide) (by decide)
    rw [show verC ⟨0, 0, 0, (⟨#[]⟩ : ByteArray).data.toList⟩ ⟨0, 0, 1, (⟨#[]⟩ : ByteArray).data.toList⟩ = -1 by decide] at h; exact h
  have Va : Hid (∀ w, Calls Tryd.prog 9 #[.agg #[.int .i64 a1, .int .i64 a2, .int .i64 a3, .string a4, .string a5]] w fun e w' => e = .returned (.agg #[.int .i64 a1, .int .i64 a2, .int .i64 a3, .string a4, .string a5]) ∧ w.grownBy w' none) := fun w => vers_any _ _ _ _ _ w
  have Vb : Hid (∀ w, Calls Tryd.prog 9 #[.agg #[.int .i64 b1, .int .i64 b2, .int .i64 b3, .string b4, .string b5]] w fun e w' => e = .returned (.agg #[.int .i64 b1, .int .i64 b2, .int .i64 b3, .string b4, .string b5]) ∧ w.grownBy w' none) := fun w => vers_any _ _ _ _ _ w
  have Vc : Hid (∀ w, Calls Tryd.prog 9 #[.agg #[.int .i64 c1, .int .i64 c2, .int .i64 c3, .string c4, .string c5]] w fun e w' => e = .returned (.agg #[.int .i64 c1, .int .i64 c2, .int .i64 c3, .string c4, .string c5]) ∧ w.grownBy w' none) := fun w => vers_any _ _ _ _ _ w
  have HM : Hid (x = -y ∧ (x = -1 ∨ x = 0 ∨ x = 1) ∧ (x ≤ 0 → p ≤ 0 → q ≤ 0 ∧ ((x = 0 ∧ p = 0) ↔ q = 0))) := by
    show x = -y ∧ _
    rw [hx, hy, hp, hq]
    refine ⟨?_, good_ver.rng _ _, good_ver.trans _ _ _⟩
    have := good_ver.anti ⟨a1, a2, a3, a4.data.toList⟩ ⟨b1, b2, b3, b4.data.toList⟩
    omega
  clear hx hy hp hq ha hb hc
  go_enter Tryd.func6, Tryd.ntmps6
  go_wp2
  obtain ⟨W, hW⟩ : ∃ W, (((w.alloc (.cells #[.int .i64 a1, .int .i64 a2, .int .i64 a3, .string a4, .string a5] 23)).alloc (.cells #[.int .i64 b1, .int .i64 b2, .int .i64 b3, .string b4, .string b5] 23)).alloc (.cells #[.int .i64 c1, .int .i64 c2, .int .i64 c3, .string c4, .string c5] 23)) = W := ⟨_, rfl⟩
  rw [hW]
  have HG : Hid (w.grownBy W none) := by show w.grownBy W none; rw [← hW]; exact gb_alloc (gb_alloc (gb_alloc (gb_refl w none) _) _) _
  obtain ⟨A, hA⟩ : ∃ A, w.heap.size = A := ⟨_, rfl⟩
  have STa : Hid (St A a1 a2 a3 a4 a5 W) := by
    show St A a1 a2 a3 a4 a5 W
    rw [← hW, ← hA]
    refine st_row (t := 23) ?_
    rw [Lib.alloc_old _ _ _ (by simp; omega), Lib.alloc_old _ _ _ (by simp)]
    exact heap_alloc_new w _
  have STb : Hid (St (A + 1) b1 b2 b3 b4 b5 W) := by
    show St (A + 1) b1 b2 b3 b4 b5 W
    rw [← hW, ← hA]
    refine st_row (t := 23) ?_
    rw [Lib.alloc_old _ _ _ (by simp)]
    have := heap_alloc_new (w.alloc (.cells #[.int .i64 a1, .int .i64 a2, .int .i64 a3, .string a4, .string a5] 23)) (.cells #[.int .i64 b1, .int .i64 b2, .int .i64 b3, .string b4, .string b5] 23)
    simpa using this
  have STc : Hid (St (A + 1 + 1) c1 c2 c3 c4 c5 W) := by
    show St (A + 1 + 1) c1 c2 c3 c4 c5 W
    rw [← hW, ← hA]
    refine st_row (t := 23) ?_
    have := heap_alloc_new ((w.alloc (.cells #[.int .i64 a1, .int .i64 a2, .int .i64 a3, .string a4, .string a5] 23)).alloc (.cells #[.int .i64 b1, .int .i64 b2, .int .i64 b3, .string b4, .string b5] 23)) (.cells #[.int .i64 c1, .int .i64 c2, .int .i64 c3, .string c4, .string c5] 23)
    simpa using this
  rw [hA]
  clear hW hA
  obtain ⟨s1, s2, s3, s4, s5⟩ := STa.out
  obtain ⟨s6, s7, s8, s9, s10⟩ := STb.out
  go_region_held3 (fun w' => w'.cell? ⟨A, 0, none⟩ = some (.int .i64 a1) ∧ w'.cell? ⟨A, 1, none⟩ = some (.int .i64 a2) ∧ w'.cell? ⟨A, 2, none⟩ = some (.int .i64 a3) ∧ w'.cell? ⟨A, 3, none⟩ = some (.string a4) ∧ w'.cell? ⟨A, 4, none⟩ = some (.string a5) ∧ w'.cell? ⟨A + 1, 0, none⟩ = some (.int .i64 b1) ∧ w'.cell? ⟨A + 1, 1, none⟩ = some (.int .i64 b2) ∧ w'.cell? ⟨A + 1, 2, none⟩ = some (.int .i64 b3) ∧ w'.cell? ⟨A + 1, 3, none⟩ = some (.string b4) ∧ w'.cell? ⟨A + 1, 4, none⟩ = some (.string b5)) ((first | exact keep2 (by assumption) (by assumption) | (refine ⟨?_, ?_, ?_, ?_, ?_, ?_, ?_, ?_, ?_, ?_⟩ <;> (refine World.grownBy.cell (by assumption) ?_ (by simp); assumption)) | go_keep)) (first | (go_at_call_of 9 (Value.string a4); refine (Va.out _).mono ?_; rintro e w3 ⟨rfl, hg3⟩) | (go_at_call_of 9 (Value.string b4); refine (Vb.out _).mono ?_; rintro e w4 ⟨rfl, hg4⟩) | (go_at_call 15; refine (Cx.out _).mono ?_; rintro e W1 ⟨rfl, hg5⟩))
  have hgs : W.grownBy W1 none := gb_trans (gb_trans (gb_undrew hg3) hg4) hg5
  replace HG : Hid (w.grownBy W1 none) := gb_trans HG.out hgs
  replace STa : Hid (St A a1 a2 a3 a4 a5 W1) := STa.out.grow hgs
  replace STb : Hid (St (A + 1) b1 b2 b3 b4 b5 W1) := STb.out.grow hgs
  replace STc : Hid (St (A + 1 + 1) c1 c2 c3 c4 c5 W1) := STc.out.grow hgs
  clear hgs s1 s2 s3 s4 s5 s6 s7 s8 s9 s10 hg3 hg4 hg5 
  go_wp2
  obtain ⟨s1, s2, s3, s4, s5⟩ := STb.out
  obtain ⟨s6, s7, s8, s9, s10⟩ := STa.out
  go_region_held3 (fun w' => w'.cell? ⟨A + 1, 0, none⟩ = some (.int .i64 b1) ∧ w'.cell? ⟨A + 1, 1, none⟩ = some (.int .i64 b2) ∧ w'.cell? ⟨A + 1, 2, none⟩ = some (.int .i64 b3) ∧ w'.cell? ⟨A + 1, 3, none⟩ = some (.string b4) ∧ w'.cell? ⟨A + 1, 4, none⟩ = some (.string b5) ∧ w'.cell? ⟨A, 0, none⟩ = some (.int .i64 a1) ∧ w'.cell? ⟨A, 1, none⟩ = some (.int .i64 a2) ∧ w'.cell? ⟨A, 2, none⟩ = some (.int .i64 a3) ∧ w'.cell? ⟨A, 3, none⟩ = some (.string a4) ∧ w'.cell? ⟨A, 4, none⟩ = some (.string a5)) ((first | exact keep2 (by assumption) (by assumption) | (refine ⟨?_, ?_, ?_, ?_, ?_, ?_, ?_, ?_, ?_, ?_⟩ <;> (refine World.grownBy.cell (by assumption) ?_ (by simp); assumption)) | go_keep)) (first | (go_at_call_of 9 (Value.string b4); refine (Vb.out _).mono ?_; rintro e w3 ⟨rfl, hg3⟩) | (go_at_call_of 9 (Value.string a4); refine (Va.out _).mono ?_; rintro e w4 ⟨rfl, hg4⟩) | (go_at_call 15; refine (Cy.out _).mono ?_; rintro e W2 ⟨rfl, hg5⟩))
  have hgs : W1.grownBy W2 none := gb_trans (gb_trans (gb_undrew hg3) hg4) hg5
  replace HG : Hid (w.grownBy W2 none) := gb_trans HG.out hgs
  replace STa : Hid (St A a1 a2 a3 a4 a5 W2) := STa.out.grow hgs
  replace STb : Hid (St (A + 1) b1 b2 b3 b4 b5 W2) := STb.out.grow hgs
  replace STc : Hid (St (A + 1 + 1) c1 c2 c3 c4 c5 W2) := STc.out.grow hgs
  clear hgs s1 s2 s3 s4 s5 s6 s7 s8 s9 s10 hg3 hg4 hg5 
  go_wp2
  obtain ⟨s1, s2, s3, s4, s5⟩ := STb.out
  obtain ⟨s6, s7, s8, s9, s10⟩ := STc.out
  go_region_held3 (fun w' => w'.cell? ⟨A + 1, 0, none⟩ = some (.int .i64 b1) ∧ w'.cell? ⟨A + 1, 1, none⟩ = some (.int .i64 b2) ∧ w'.cell? ⟨A + 1, 2, none⟩ = some (.int .i64 b3) ∧ w'.cell? ⟨A + 1, 3, none⟩ = some (.string b4) ∧ w'.cell? ⟨A + 1, 4, none⟩ = some (.string b5) ∧ w'.cell? ⟨A + 1 + 1, 0, none⟩ = some (.int .i64 c1) ∧ w'.cell? ⟨A + 1 + 1, 1, none⟩ = some (.int .i64 c2) ∧ w'.cell? ⟨A + 1 + 1, 2, none⟩ = some (.int .i64 c3) ∧ w'.cell? ⟨A + 1 + 1, 3, none⟩ = some (.string c4) ∧ w'.cell? ⟨A + 1 + 1, 4, none⟩ = some (.string c5)) ((first | exact keep2 (by assumption) (by assumption) | (refine ⟨?_, ?_, ?_, ?_, ?_, ?_, ?_, ?_, ?_, ?_⟩ <;> (refine World.grownBy.cell (by assumption) ?_ (by simp); assumption)) | go_keep)) (first | (go_at_call_of 9 (Value.string b4); refine (Vb.out _).mono ?_; rintro e w3 ⟨rfl, hg3⟩) | (go_at_call_of 9 (Value.string c4); refine (Vc.out _).mono ?_; rintro e w4 ⟨rfl, hg4⟩) | (go_at_call 15; refine (Cp.out _).mono ?_; rintro e W3 ⟨rfl, hg5⟩))
  have hgs : W2.grownBy W3 none := gb_trans (gb_trans (gb_undrew hg3) hg4) hg5
  replace HG : Hid (w.grownBy W3 none) := gb_trans HG.out hgs
  replace STa : Hid (St A a1 a2 a3 a4 a5 W3) := STa.out.grow hgs
  replace STb : Hid (St (A + 1) b1 b2 b3 b4 b5 W3) := STb.out.grow hgs
  replace STc : Hid (St (A + 1 + 1) c1 c2 c3 c4 c5 W3) := STc.out.grow hgs
  clear hgs s1 s2 s3 s4 s5 s6 s7 s8 s9 s10 hg3 hg4 hg5 
  go_wp2
  obtain ⟨s1, s2, s3, s4, s5⟩ := STa.out
  obtain ⟨s6, s7, s8, s9, s10⟩ := STc.out
  go_region_held3 (fun w' => w'.cell? ⟨A, 0, none⟩ = some (.int .i64 a1) ∧ w'.cell? ⟨A, 1, none⟩ = some (.int .i64 a2) ∧ w'.cell? ⟨A, 2, none⟩ = some (.int .i64 a3) ∧ w'.cell? ⟨A, 3, none⟩ = some (.string a4) ∧ w'.cell? ⟨A, 4, none⟩ = some (.string a5) ∧ w'.cell? ⟨A + 1 + 1, 0, none⟩ = some (.int .i64 c1) ∧ w'.cell? ⟨A + 1 + 1, 1, none⟩ = some (.int .i64 c2) ∧ w'.cell? ⟨A + 1 + 1, 2, none⟩ = some (.int .i64 c3) ∧ w'.cell? ⟨A + 1 + 1, 3, none⟩ = some (.string c4) ∧ w'.cell? ⟨A + 1 + 1, 4, none⟩ = some (.string c5)) ((first | exact keep2 (by assumption) (by assumption) | (refine ⟨?_, ?_, ?_, ?_, ?_, ?_, ?_, ?_, ?_, ?_⟩ <;> (refine World.grownBy.cell (by assumption) ?_ (by simp); assumption)) | go_keep)) (first | (go_at_call_of 9 (Value.string a4); refine (Va.out _).mono ?_; rintro e w3 ⟨rfl, hg3⟩) | (go_at_call_of 9 (Value.string c4); refine (Vc.out _).mono ?_; rintro e w4 ⟨rfl, hg4⟩) | (go_at_call 15; refine (Cq.out _).mono ?_; rintro e W4 ⟨rfl, hg5⟩))
  have hgs : W3.grownBy W4 none := gb_trans (gb_trans (gb_undrew hg3) hg4) hg5
  replace HG : Hid (w.grownBy W4 none) := gb_trans HG.out hgs
  replace STa : Hid (St A a1 a2 a3 a4 a5 W4) := STa.out.grow hgs
  replace STb : Hid (St (A + 1) b1 b2 b3 b4 b5 W4) := STb.out.grow hgs
  replace STc : Hid (St (A + 1 + 1) c1 c2 c3 c4 c5 W4) := STc.out.grow hgs
  clear hgs s1 s2 s3 s4 s5 s6 s7 s8 s9 s10 hg3 hg4 hg5 
  obtain ⟨s1, s2, s3, s4, s5⟩ := STa.out
  go_wp2_with (first | (go_at_call 9; refine (Va.out _).mono ?_; rintro e w3 ⟨rfl, hg3⟩))
  obtain ⟨N, hN⟩ : ∃ N, w3.heap.size = N := ⟨_, rfl⟩
  obtain ⟨W5, hW5⟩ : ∃ W5, w3.alloc (.cells #[.int .i64 a1, .int .i64 a2, .int .i64 a3, .string a4, .string d] 25) = W5 := ⟨_, rfl⟩
  have hgs : W4.grownBy W5 none := by rw [← hW5]; exact gb_alloc hg3 _
  replace HG : Hid (w.grownBy W5 none) := gb_trans HG.out hgs
  replace STa : Hid (St A a1 a2 a3 a4 a5 W5) := STa.out.grow hgs
  replace STb : Hid (St (A + 1) b1 b2 b3 b4 b5 W5) := STb.out.grow hgs
  have STn : Hid (St N a1 a2 a3 a4 d W5) := by
    show St N a1 a2 a3 a4 d W5
    rw [← hW5, ← hN]
    exact st_row (t := 25) (heap_alloc_new w3 _)
  rw [hW5, hN]
  clear hgs hg3 hN hW5 s1 s2 s3 s4 s5 STc
  obtain ⟨s1, s2, s3, s4, s5⟩ := STn.out
  obtain ⟨s6, s7, s8, s9, s10⟩ := STa.out
  go_region_held3 (fun w' => w'.cell? ⟨N, 0, none⟩ = some (.int .i64 a1) ∧ w'.cell? ⟨N, 1, none⟩ = some (.int .i64 a2) ∧ w'.cell? ⟨N, 2, none⟩ = some (.int .i64 a3) ∧ w'.cell? ⟨N, 3, none⟩ = some (.string a4) ∧ w'.cell? ⟨N, 4, none⟩ = some (.string d) ∧ w'.cell? ⟨A, 0, none⟩ = some (.int .i64 a1) ∧ w'.cell? ⟨A, 1, none⟩ = some (.int .i64 a2) ∧ w'.cell? ⟨A, 2, none⟩ = some (.int .i64 a3) ∧ w'.cell? ⟨A, 3, none⟩ = some (.string a4) ∧ w'.cell? ⟨A, 4, none⟩ = some (.string a5)) ((first | exact keep2 (by assumption) (by assumption) | (refine ⟨?_, ?_, ?_, ?_, ?_, ?_, ?_, ?_, ?_, ?_⟩ <;> (refine World.grownBy.cell (by assumption) ?_ (by simp); assumption)) | go_keep)) (first | (go_at_call 9; refine (Va.out _).mono ?_; rintro e w3 ⟨rfl, hg3⟩) | (go_at_call 15; refine (Cz.out _).mono ?_; rintro e W6 ⟨rfl, hg5⟩))
  have hgs : W5.grownBy W6 none := gb_trans (gb_undrew hg3) hg5
  replace HG : Hid (w.grownBy W6 none) := gb_trans HG.out hgs
  replace STn : Hid (St N a1 a2 a3 a4 d W6) := STn.out.grow hgs
  replace STa : Hid (St A a1 a2 a3 a4 a5 W6) := STa.out.grow hgs
  replace STb : Hid (St (A + 1) b1 b2 b3 b4 b5 W6) := STb.out.grow hgs
  clear hgs s1 s2 s3 s4 s5 s6 s7 s8 s9 s10 hg3 hg5
  go_wp2
  obtain ⟨s1, s2, s3, s4, s5⟩ := STn.out
  obtain ⟨s6, s7, s8, s9, s10⟩ := STb.out
  go_region_held3 (fun w' => w'.cell? ⟨N, 0, none⟩ = some (.int .i64 a1) ∧ w'.cell? ⟨N, 1, none⟩ = some (.int .i64 a2) ∧ w'.cell? ⟨N, 2, none⟩ = some (.int .i64 a3) ∧ w'.cell? ⟨N, 3, none⟩ = some (.string a4) ∧ w'.cell? ⟨N, 4, none⟩ = some (.string d) ∧ w'.cell? ⟨A + 1, 0, none⟩ = some (.int .i64 b1) ∧ w'.cell? ⟨A + 1, 1, none⟩ = some (.int .i64 b2) ∧ w'.cell? ⟨A + 1, 2, none⟩ = some (.int .i64 b3) ∧ w'.cell? ⟨A + 1, 3, none⟩ = some (.string b4) ∧ w'.cell? ⟨A + 1, 4, none⟩ = some (.string b5)) ((first | exact keep2 (by assumption) (by assumption) | (refine ⟨?_, ?_, ?_, ?_, ?_, ?_, ?_, ?_, ?_, ?_⟩ <;> (refine World.grownBy.cell (by assumption) ?_ (by simp); assumption)) | go_keep)) (first | (go_at_call 9; refine (Vb.out _).mono ?_; rintro e w3 ⟨rfl, hg3⟩) | (go_at_call 15; refine (Cw.out _).mono ?_; rintro e W7 ⟨rfl, hg5⟩))
  have hgs : W6.grownBy W7 none := gb_trans (gb_undrew hg3) hg5
  replace HG : Hid (w.grownBy W7 none) := gb_trans HG.out hgs
  replace STn : Hid (St N a1 a2 a3 a4 d W7) := STn.out.grow hgs
  replace STa : Hid (St A a1 a2 a3 a4 a5 W7) := STa.out.grow hgs
  replace STb : Hid (St (A + 1) b1 b2 b3 b4 b5 W7) := STb.out.grow hgs
  clear hgs s1 s2 s3 s4 s5 s6 s7 s8 s9 s10 hg3 hg5
  go_wp2_with (first | (go_at_call 15; refine (Ck.out _).mono ?_; rintro e W8 ⟨rfl, hg8⟩))
  all_goals
    go_ret
    refine ⟨ret_bool ?_, gb_trans HG.out hg8⟩
    have hM := HM.out
    clear Cx Cy Cp Cq Cz Cw Ck Va Vb Vc STa STb STn HG HM hg8
    have hw : wrap64 (-y) = x := by
      rw [← hM.1]; unfold wrap64; omega
    generalize wrap64 (-y) = z at *
    have hr := hM.2.1
    by_cases hxp : x ≤ 0 ∧ p ≤ 0
    · obtain ⟨t1, t2⟩ := hM.2.2 hxp.1 hxp.2
      clear hM
      first
        | rfl
        | (exfalso; omega)
        | (simp; omega)
        | (rw [show (p == 0) = (q == 0) by rw [Bool.eq_iff_iff]; simp only [beq_iff_eq]; omega]; exact beq_self_eq_true _)
    · first
        | rfl
        | (exfalso; omega)
end Go.Proofs.YtlfekpgoibgplaaDoor
