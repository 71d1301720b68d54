/-
  VerTexts, walked.
-/
import Derived.Test.YtlfekpgoibgplaaDoorRn
import Derived.Test.YtlfekpgoibgplaaDoorWu
namespace Go.Proofs.YtlfekpgoibgplaaDoor
open Go.RowKit
set_option linter.unusedVariables false

set_option maxHeartbeats 1600000 in
theorem textsLaw (a1 a2 a3 : Int) (a4 a5 : ByteArray) (w : World) (ht : Tab w) (b1 : -9223372036854775808 ≤ a1 ∧ a1 ≤ 9223372036854775807) (b2 : -9223372036854775808 ≤ a2 ∧ a2 ≤ 9223372036854775807) (b3 : -9223372036854775808 ≤ a3 ∧ a3 ≤ 9223372036854775807) (ha : a4.size ≤ 1048576) (hb : a5.size ≤ 1048576) :
    Calls Tryd.prog 3 #[.agg #[.int .i64 a1, .int .i64 a2, .int .i64 a3, .string a4, .string a5]] w fun e w' => e = .returned (.bool true) ∧ w.grownBy w' none := by
  obtain ⟨n3, n4, hn4, hnx, CN, CR⟩ := next_both a1 a2 a3 a4 a5 (by omega) b3.1
  obtain ⟨X, hX⟩ : ∃ X : ByteArray, X = ⟨(textV ⟨a1, a2, a3, a4.data.toList, a5.data.toList⟩).toArray⟩ := ⟨_, rfl⟩
  obtain ⟨s, hs⟩ : ∃ s, s = soundV ⟨a1, a2, a3, a4.data.toList, a5.data.toList⟩ := ⟨_, rfl⟩
  have Va : Hid (∀ w, Calls Tryd.prog 9 #[.agg #[.int .i64 a1, .int .i64 a2, .int .i64 a3, .string a4, .string a5]] w fun e w' => e = .returned (.agg #[.int .i64 a1, .int .i64 a2, .int .i64 a3, .string a4, .string a5]) ∧ w.grownBy w' none) := fun w => vers_any _ _ _ _ _ w
  have Vn : Hid (∀ w, Calls Tryd.prog 9 #[.agg #[.int .i64 a1, .int .i64 a2, .int .i64 n3, .string n4, .string ⟨#[]⟩]] w fun e w' => e = .returned (.agg #[.int .i64 a1, .int .i64 a2, .int .i64 n3, .string n4, .string ⟨#[]⟩]) ∧ w.grownBy w' none) := fun w => vers_any _ _ _ _ _ w
  have PT : Hid (∀ w, Tab w → Calls Tryd.prog 8 #[.agg #[.int .i64 a1, .int .i64 a2, .int .i64 a3, .string a4, .string a5]] w fun e w' => e = .returned (.string X) ∧ w.grownBy w' none) := fun w h => by rw [hX]; exact vtext_any a1 a2 a3 a4 a5 w h b1 b2 b3 (by omega) (by omega)
  have RT : Hid (∀ w, Calls Tryd.prog 12 #[.agg #[.int .i64 a1, .int .i64 a2, .int .i64 a3, .string a4, .string a5]] w fun e w' => e = .returned (.string X) ∧ w.grownBy w' none) := fun w => by rw [hX]; exact rtext_any a1 a2 a3 a4 a5 w b1 b2 b3 (by omega) (by omega)
  have PS : Hid (∀ w, Calls Tryd.prog 10 #[.agg #[.int .i64 a1, .int .i64 a2, .int .i64 a3, .string a4, .string a5]] w fun e w' => e = .returned (.bool s) ∧ w.grownBy w' none) := fun w => by rw [hs]; exact psound_any a1 a2 a3 a4 a5 w (by omega) (by omega)
  have RS' : Hid (∀ w, Calls Tryd.prog 13 #[.agg #[.int .i64 a1, .int .i64 a2, .int .i64 a3, .string a4, .string a5]] w fun e w' => e = .returned (.bool s) ∧ w.grownBy w' none) := fun w => by rw [hs]; exact sound_any a1 a2 a3 a4 a5 w ha hb
  have PN : Hid (∀ w, Calls Tryd.prog 11 #[.agg #[.int .i64 a1, .int .i64 a2, .int .i64 a3, .string a4, .string a5]] w fun e w' => e = .returned (.agg #[.int .i64 a1, .int .i64 a2, .int .i64 n3, .string n4, .string ⟨#[]⟩]) ∧ w.grownBy w' none) := CN
  have RN : Hid (∀ w, Calls Tryd.prog 14 #[.agg #[.int .i64 a1, .int .i64 a2, .int .i64 a3, .string a4, .string a5]] w fun e w' => e = .returned (.agg #[.int .i64 a1, .int .i64 a2, .int .i64 n3, .string n4, .string ⟨#[]⟩]) ∧ w.grownBy w' none) := CR
  clear hX hs CN CR hnx hn4 b1 b2 b3 ha hb
  go_enter Tryd.func3, Tryd.ntmps3
  go_wp2_with (go_at_call 9; refine (Va.out _).mono ?_)
  rintro e w1 ⟨rfl, hg⟩
  obtain ⟨A, hA⟩ : ∃ A, w.heap.size = A := ⟨_, rfl⟩
  have STa : Hid (St A a1 a2 a3 a4 a5 w1) := by
    show St A a1 a2 a3 a4 a5 w1
    rw [← hA]; exact (st_row (t := 23) (heap_alloc_new w _)).grow hg
  have HG : Hid (w.grownBy w1 none) := gb_trans (gb_alloc (gb_refl w none) _) hg
  have TB : Hid (Tab w1) := tab_grow ht HG.out
  rw [hA]
  clear hA hg ht
  go_wp2_with (go_at_call 8; refine (PT.out _ TB.out).mono ?_)
  rintro e w2 ⟨rfl, hg⟩
  replace STa : Hid (St A a1 a2 a3 a4 a5 w2) := STa.out.grow hg
  replace HG : Hid (w.grownBy w2 none) := gb_trans HG.out hg
  replace TB : Hid (Tab w2) := tab_grow TB.out hg
  clear hg
  obtain ⟨s1, s2, s3, s4, s5⟩ := STa.out
  go_wp2_with (go_at_call 9; refine (Va.out _).mono ?_)
  rintro e w3 ⟨rfl, hg⟩
  replace STa : Hid (St A a1 a2 a3 a4 a5 w3) := STa.out.grow hg
  replace HG : Hid (w.grownBy w3 none) := gb_trans HG.out hg
  replace TB : Hid (Tab w3) := tab_grow TB.out hg
  clear hg
  clear s1 s2 s3 s4 s5
  go_wp2_with (go_at_call 10; refine (PS.out _).mono ?_)
  rintro e w4 ⟨rfl, hg⟩
  replace STa : Hid (St A a1 a2 a3 a4 a5 w4) := STa.out.grow hg
  replace HG : Hid (w.grownBy w4 none) := gb_trans HG.out hg
  replace TB : Hid (Tab w4) := tab_grow TB.out hg
  clear hg
  obtain ⟨s1, s2, s3, s4, s5⟩ := STa.out
  go_wp2_with (go_at_call 9; refine (Va.out _).mono ?_)
  rintro e w5 ⟨rfl, hg⟩
  replace STa : Hid (St A a1 a2 a3 a4 a5 w5) := STa.out.grow hg
  replace HG : Hid (w.grownBy w5 none) := gb_trans HG.out hg
  replace TB : Hid (Tab w5) := tab_grow TB.out hg
  clear hg
  clear s1 s2 s3 s4 s5
  go_wp2_with (go_at_call 11; refine (PN.out _).mono ?_)
  rintro e w6 ⟨rfl, hg⟩
  replace STa : Hid (St A a1 a2 a3 a4 a5 w6) := STa.out.grow hg
  replace HG : Hid (w.grownBy w6 none) := gb_trans HG.out hg
  replace TB : Hid (Tab w6) := tab_grow TB.out hg
  clear hg
  go_wp2
  obtain ⟨N, hN⟩ : ∃ N, w6.heap.size = N := ⟨_, rfl⟩
  obtain ⟨W, hW⟩ : ∃ W, w6.alloc (.cells #[.int .i64 a1, .int .i64 a2, .int .i64 n3, .string n4, .string ⟨#[]⟩] 25) = W := ⟨_, rfl⟩
  have hg : w6.grownBy W none := by rw [← hW]; exact gb_alloc (gb_refl w6 none) _
  have STn : Hid (St N a1 a2 n3 n4 ⟨#[]⟩ W) := by
    show St N a1 a2 n3 n4 ⟨#[]⟩ W
    rw [← hW, ← hN]
    exact st_row (t := 25) (heap_alloc_new w6 _)
  rw [hW, hN]
  replace STa : Hid (St A a1 a2 a3 a4 a5 W) := STa.out.grow hg
  replace HG : Hid (w.grownBy W none) := gb_trans HG.out hg
  replace TB : Hid (Tab W) := tab_grow TB.out hg
  clear hg
  clear hW hN
  obtain ⟨s1, s2, s3, s4, s5⟩ := STa.out
  obtain ⟨s6, s7, s8, s9, s10⟩ := STn.out
  have q1 : (X.toList == X.toList) = true := by simp
  have q2 : (s == s) = true := by simp
  go_region_held3 (fun w' => w'.cell? ⟨A, 0, none⟩ = some (.int .i64 a1) ∧ w'.cell? ⟨A, 1, none⟩ = some (.int .i64 a2) ∧ w'.cell? ⟨A, 2, none⟩ = some (.int .i64 a3) ∧ w'.cell? ⟨A, 3, none⟩ = some (.string a4) ∧ w'.cell? ⟨A, 4, none⟩ = some (.string a5) ∧ w'.cell? ⟨N, 0, none⟩ = some (.int .i64 a1) ∧ w'.cell? ⟨N, 1, none⟩ = some (.int .i64 a2) ∧ w'.cell? ⟨N, 2, none⟩ = some (.int .i64 n3) ∧ w'.cell? ⟨N, 3, none⟩ = some (.string n4) ∧ w'.cell? ⟨N, 4, none⟩ = some (.string ⟨#[]⟩)) ((first | exact keep2 (by assumption) (by assumption) | (refine ⟨?_, ?_, ?_, ?_, ?_, ?_, ?_, ?_, ?_, ?_⟩ <;> (refine World.grownBy.cell (by assumption) ?_ (by simp); assumption)) | go_keep)) (first | (go_at_call 12; refine (RT.out _).mono ?_; rintro e u1 ⟨rfl, hg1⟩) | (go_at_call 13; refine (RS'.out _).mono ?_; rintro e u2 ⟨rfl, hg2⟩) | (go_at_call 14; refine (RN.out _).mono ?_; rintro e u3 ⟨rfl, hg3⟩) | (go_at_call 9; refine (Vn.out _).mono ?_; rintro e u4 ⟨rfl, hg4⟩))
  go_wp2
  go_ret
  exact ⟨rfl, gb_trans HG.out (gb_trans (gb_trans (gb_trans (gb_undrew hg1) hg2) hg3) hg4)⟩
end Go.Proofs.YtlfekpgoibgplaaDoor
