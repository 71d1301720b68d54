/-
  VerNext, walked.
-/
import Derived.Test.YtlfekpgoibgplaaDoorRe
namespace Go.Proofs.YtlfekpgoibgplaaDoor
open Go.RowKit
set_option linter.unusedVariables false

/-- the next version, as both hold it -/
theorem next_both (a1 a2 a3 : Int) (a4 a5 : ByteArray) (hs : a4.size < 2 ^ 62) (h0 : -9223372036854775808 ≤ a3) :
    ∃ (n3 : Int) (n4 : ByteArray), n4.size ≤ a4.size + 2 ∧ (nextV ⟨a1, a2, a3, a4.data.toList⟩ = ⟨a1, a2, n3, n4.data.toList⟩) ∧
      (∀ w, Calls Tryd.prog 11 #[.agg #[.int .i64 a1, .int .i64 a2, .int .i64 a3, .string a4, .string a5]] w fun e w' => e = .returned (.agg #[.int .i64 a1, .int .i64 a2, .int .i64 n3, .string n4, .string ⟨#[]⟩]) ∧ w.grownBy w' none) ∧
      (∀ w, Calls Tryd.prog 14 #[.agg #[.int .i64 a1, .int .i64 a2, .int .i64 a3, .string a4, .string a5]] w fun e w' => e = .returned (.agg #[.int .i64 a1, .int .i64 a2, .int .i64 n3, .string n4, .string ⟨#[]⟩]) ∧ w.grownBy w' none) := by
  by_cases h4 : a4.size = 0
  · have e : a4.data.toList = [] := List.length_eq_zero_iff.1 (by simpa using h4)
    by_cases h3 : a3 < 4611686018427387904
    · refine ⟨a3 + 1, ⟨#[48]⟩, by show 1 ≤ _; omega, ?_, fun w => next_s a1 a2 a3 a4 a5 w h4 h3 h0, fun w => rnext_s a1 a2 a3 a4 a5 w h4 h3 h0⟩
      unfold nextV; rw [if_pos e, if_pos h3]
    · refine ⟨a3, ⟨#[48]⟩, by show 1 ≤ _; omega, ?_, fun w => next_g a1 a2 a3 a4 a5 w h4 h3, fun w => rnext_g a1 a2 a3 a4 a5 w h4 h3⟩
      unfold nextV; rw [if_pos e, if_neg h3]
  · refine ⟨a3, ⟨(a4.data.toList ++ [46, 48]).toArray⟩, ?_, ?_, fun w => next_f a1 a2 a3 a4 a5 w h4 hs, fun w => rnext_f a1 a2 a3 a4 a5 w h4 hs⟩
    · show (a4.data.toList ++ [46, 48]).toArray.size ≤ _
      simp
    · unfold nextV
      rw [if_neg (fun e => h4 (by have e' : a4.data.toList = [] := e; show a4.data.size = 0; rw [← Array.length_toList, e']; rfl))]

set_option maxHeartbeats 1600000 in
theorem nextLaw (a1 a2 a3 b1 b2 b3 : Int) (a4 a5 b4 b5 : ByteArray) (w : World) (h0 : -9223372036854775808 ≤ a3) (ha : a4.size ≤ 1048576) (ha5 : a5.size ≤ 1048576) (hb : b4.size ≤ 1048576) (hb5 : b5.size ≤ 1048576) :
    Calls Tryd.prog 7 #[.agg #[.int .i64 a1, .int .i64 a2, .int .i64 a3, .string a4, .string a5], .agg #[.int .i64 b1, .int .i64 b2, .int .i64 b3, .string b4, .string b5]] w fun e w' => e = .returned (.bool true) ∧ w.grownBy w' none := by
  obtain ⟨n3, n4, hn4, hnx, CN, CR⟩ := next_both a1 a2 a3 a4 a5 (by omega) h0
  obtain ⟨s, hs⟩ : ∃ s, s = soundV ⟨a1, a2, a3, a4.data.toList, a5.data.toList⟩ := ⟨_, rfl⟩
  obtain ⟨t, ht⟩ : ∃ t, t = soundV ⟨b1, b2, b3, b4.data.toList, b5.data.toList⟩ := ⟨_, rfl⟩
  obtain ⟨c, hc⟩ : ∃ c, c = verC ⟨a1, a2, a3, a4.data.toList⟩ ⟨a1, a2, n3, n4.data.toList⟩ := ⟨_, rfl⟩
  obtain ⟨x, hx⟩ : ∃ x, x = verC ⟨a1, a2, a3, a4.data.toList⟩ ⟨b1, b2, b3, b4.data.toList⟩ := ⟨_, rfl⟩
  obtain ⟨y, hy⟩ : ∃ y, y = verC ⟨b1, b2, b3, b4.data.toList⟩ ⟨a1, a2, n3, n4.data.toList⟩ := ⟨_, rfl⟩
  have HM : Hid (s = true → c = -1 ∧ ¬ (x < 0 ∧ y < 0)) := by
    intro h
    rw [h] at hs
    have hs' := hs.symm
    simp only [soundV, Bool.and_eq_true, bound_iff] at hs'
    have hp : a3 < 4611686018427387904 := by omega
    rw [hc, hx, hy, ← hnx]
    exact ⟨next_behind _ hp, fun hxy => none_between _ _ hp hxy.1 hxy.2⟩
  have HS : Hid (∀ w, Calls Tryd.prog 13 #[.agg #[.int .i64 a1, .int .i64 a2, .int .i64 a3, .string a4, .string a5]] w fun e w' => e = .returned (.bool s) ∧ w.grownBy w' none) := fun w => by rw [hs]; exact sound_any a1 a2 a3 a4 a5 w ha ha5
  have HT : Hid (∀ w, Calls Tryd.prog 13 #[.agg #[.int .i64 b1, .int .i64 b2, .int .i64 b3, .string b4, .string b5]] w fun e w' => e = .returned (.bool t) ∧ w.grownBy w' none) := fun w => by rw [ht]; exact sound_any b1 b2 b3 b4 b5 w hb hb5
  have Va : Hid (∀ w, Calls Tryd.prog 9 #[.agg #[.int .i64 a1, .int .i64 a2, .int .i64 a3, .string a4, .string a5]] w fun e w' => e = .returned (.agg #[.int .i64 a1, .int .i64 a2, .int .i64 a3, .string a4, .string a5]) ∧ w.grownBy w' none) := fun w => vers_any _ _ _ _ _ w
  have Vb : Hid (∀ w, Calls Tryd.prog 9 #[.agg #[.int .i64 b1, .int .i64 b2, .int .i64 b3, .string b4, .string b5]] w fun e w' => e = .returned (.agg #[.int .i64 b1, .int .i64 b2, .int .i64 b3, .string b4, .string b5]) ∧ w.grownBy w' none) := fun w => vers_any _ _ _ _ _ w
  have Vn : Hid (∀ w, Calls Tryd.prog 9 #[.agg #[.int .i64 a1, .int .i64 a2, .int .i64 n3, .string n4, .string ⟨#[]⟩]] w fun e w' => e = .returned (.agg #[.int .i64 a1, .int .i64 a2, .int .i64 n3, .string n4, .string ⟨#[]⟩]) ∧ w.grownBy w' none) := fun w => vers_any _ _ _ _ _ w
  have HCN : Hid (∀ w, Calls Tryd.prog 11 #[.agg #[.int .i64 a1, .int .i64 a2, .int .i64 a3, .string a4, .string a5]] w fun e w' => e = .returned (.agg #[.int .i64 a1, .int .i64 a2, .int .i64 n3, .string n4, .string ⟨#[]⟩]) ∧ w.grownBy w' none) := CN
  have HCR : Hid (∀ w, Calls Tryd.prog 14 #[.agg #[.int .i64 a1, .int .i64 a2, .int .i64 a3, .string a4, .string a5]] w fun e w' => e = .returned (.agg #[.int .i64 a1, .int .i64 a2, .int .i64 n3, .string n4, .string ⟨#[]⟩]) ∧ w.grownBy w' none) := CR
  have Cc : Hid (∀ w, Calls Tryd.prog 15 #[.agg #[.int .i64 a1, .int .i64 a2, .int .i64 a3, .string a4, .string a5], .agg #[.int .i64 a1, .int .i64 a2, .int .i64 n3, .string n4, .string ⟨#[]⟩]] w fun e w' => e = .returned (.int .i64 c) ∧ w.grownBy w' none) := fun w => by rw [hc]; exact compare_any a1 a2 a3 a1 a2 n3 a4 a5 n4 ⟨#[]⟩ w (by omega) (by omega)
  have Cx : Hid (∀ w, Calls Tryd.prog 15 #[.agg #[.int .i64 a1, .int .i64 a2, .int .i64 a3, .string a4, .string a5], .agg #[.int .i64 b1, .int .i64 b2, .int .i64 b3, .string b4, .string b5]] w fun e w' => e = .returned (.int .i64 x) ∧ w.grownBy w' none) := fun w => by rw [hx]; exact compare_any a1 a2 a3 b1 b2 b3 a4 a5 b4 b5 w (by omega) (by omega)
  have Cy : Hid (∀ w, Calls Tryd.prog 15 #[.agg #[.int .i64 b1, .int .i64 b2, .int .i64 b3, .string b4, .string b5], .agg #[.int .i64 a1, .int .i64 a2, .int .i64 n3, .string n4, .string ⟨#[]⟩]] w fun e w' => e = .returned (.int .i64 y) ∧ w.grownBy w' none) := fun w => by rw [hy]; exact compare_any b1 b2 b3 a1 a2 n3 b4 b5 n4 ⟨#[]⟩ w (by omega) (by omega)
  have GA : Hid (∀ o1 o2, w.grownBy ((w.alloc o1).alloc o2) none) := fun o1 o2 => gb_alloc (gb_alloc (gb_refl w none) o1) o2
  clear hs ht hc hx hy ha ha5 hb hb5 CN CR hnx hn4 h0
  go_enter Tryd.func7, Tryd.ntmps7
  go_wp2_with (go_at_call 13; refine (HS.out _).mono ?_)
  rintro e W ⟨rfl, hg⟩
  obtain ⟨A, hA⟩ : ∃ A, w.heap.size = A := ⟨_, rfl⟩
  have STa : Hid (St A a1 a2 a3 a4 a5 W) := by
    show St A a1 a2 a3 a4 a5 W
    rw [← hA]
    refine (st_row (t := 23) ?_).grow hg
    rw [Lib.alloc_old _ _ _ (by simp)]
    exact heap_alloc_new w _
  have STb : Hid (St (A + 1) b1 b2 b3 b4 b5 W) := by
    show St (A + 1) b1 b2 b3 b4 b5 W
    rw [← hA]
    exact (st_row (t := 23) (row2 w _ _)).grow hg
  have HG : Hid (w.grownBy W none) := gb_trans (GA.out _ _) hg
  rw [hA]
  clear hA hg
  obtain ⟨s6, s7, s8, s9, s10⟩ := STb.out
  go_wp2_with (go_at_call 13; refine (HT.out _).mono ?_)
  rintro e W1 ⟨rfl, hg⟩
  replace STa : Hid (St A a1 a2 a3 a4 a5 W1) := STa.out.grow hg
  replace STb : Hid (St (A + 1) b1 b2 b3 b4 b5 W1) := STb.out.grow hg
  replace HG : Hid (w.grownBy W1 none) := gb_trans HG.out hg
  clear hg s6 s7 s8 s9 s10
  obtain ⟨s1, s2, s3, s4, s5⟩ := STa.out
  go_wp2_with (first | (go_at_call 9; refine (Va.out _).mono ?_; rintro e w3 ⟨rfl, hg3⟩) | (go_at_call 11; refine (HCN.out _).mono ?_))
  rintro e W2 ⟨rfl, hg4⟩
  have hgs : W1.grownBy W2 none := gb_trans hg3 hg4
  replace STa : Hid (St A a1 a2 a3 a4 a5 W2) := STa.out.grow hgs
  replace STb : Hid (St (A + 1) b1 b2 b3 b4 b5 W2) := STb.out.grow hgs
  replace HG : Hid (w.grownBy W2 none) := gb_trans HG.out hgs
  clear hgs hg3 hg4 s1 s2 s3 s4 s5
  obtain ⟨N, hN⟩ : ∃ N, W2.heap.size = N := ⟨_, rfl⟩
  obtain ⟨W3, hW3⟩ : ∃ W3, W2.alloc (.cells #[.int .i64 a1, .int .i64 a2, .int .i64 n3, .string n4, .string ⟨#[]⟩] 25) = W3 := ⟨_, rfl⟩
  have hgs : W2.grownBy W3 none := by rw [← hW3]; exact gb_alloc (gb_refl W2 none) _
  replace STa : Hid (St A a1 a2 a3 a4 a5 W3) := STa.out.grow hgs
  replace STb : Hid (St (A + 1) b1 b2 b3 b4 b5 W3) := STb.out.grow hgs
  replace HG : Hid (w.grownBy W3 none) := gb_trans HG.out hgs
  have STn : Hid (St N a1 a2 n3 n4 ⟨#[]⟩ W3) := by
    show St N a1 a2 n3 n4 ⟨#[]⟩ W3
    rw [← hW3, ← hN]
    exact st_row (t := 25) (heap_alloc_new W2 _)
  have HW3 : Hid (W2.alloc (.cells #[.int .i64 a1, .int .i64 a2, .int .i64 n3, .string n4, .string ⟨#[]⟩] 25) = W3) := hW3
  have HN : Hid (W2.heap.size = N) := hN
  clear hgs hW3 hN
  cases s with
  | true =>
    have hM := HM.out rfl
    have HX : Hid (¬ (x < 0 ∧ y < 0)) := hM.2
    have hc1 : c = -1 := hM.1
    clear hM HM
    subst hc1
    go_wp2
    rw [HW3.out, HN.out]
    clear HW3 HN
    obtain ⟨s1, s2, s3, s4, s5⟩ := STa.out
    obtain ⟨s6, s7, s8, s9, s10⟩ := STn.out
    go_region_held3 (fun w' => w'.cell? ⟨A, 0, none⟩ = some (.int .i64 a1) ∧ w'.cell? ⟨A, 1, none⟩ = some (.int .i64 a2) ∧ w'.cell? ⟨A, 2, none⟩ = some (.int .i64 a3) ∧ w'.cell? ⟨A, 3, none⟩ = some (.string a4) ∧ w'.cell? ⟨A, 4, none⟩ = some (.string a5) ∧ w'.cell? ⟨N, 0, none⟩ = some (.int .i64 a1) ∧ w'.cell? ⟨N, 1, none⟩ = some (.int .i64 a2) ∧ w'.cell? ⟨N, 2, none⟩ = some (.int .i64 n3) ∧ w'.cell? ⟨N, 3, none⟩ = some (.string n4) ∧ w'.cell? ⟨N, 4, none⟩ = some (.string ⟨#[]⟩)) ((first | exact keep2 (by assumption) (by assumption) | (refine ⟨?_, ?_, ?_, ?_, ?_, ?_, ?_, ?_, ?_, ?_⟩ <;> (refine World.grownBy.cell (by assumption) ?_ (by simp); assumption)) | go_keep)) (first | (go_at_call_of 9 a4; refine (Va.out _).mono ?_; rintro e wa ⟨rfl, hga⟩) | (go_at_call 15; refine (Cc.out _).mono ?_; rintro e W4 ⟨rfl, hg4⟩))
    have hgs : W3.grownBy W4 none := gb_trans (gb_undrew hga) hg4
    replace STa : Hid (St A a1 a2 a3 a4 a5 W4) := STa.out.grow hgs
    replace STb : Hid (St (A + 1) b1 b2 b3 b4 b5 W4) := STb.out.grow hgs
    replace STn : Hid (St N a1 a2 n3 n4 ⟨#[]⟩ W4) := STn.out.grow hgs
    replace HG : Hid (w.grownBy W4 none) := gb_trans HG.out hgs
    clear hgs hga hg4 s1 s2 s3 s4 s5 s6 s7 s8 s9 s10
    obtain ⟨s1, s2, s3, s4, s5⟩ := STn.out
    go_wp2
    clear s1 s2 s3 s4 s5
    obtain ⟨s1, s2, s3, s4, s5⟩ := STa.out
    obtain ⟨s6, s7, s8, s9, s10⟩ := STb.out
    go_region_held3 (fun w' => w'.cell? ⟨A, 0, none⟩ = some (.int .i64 a1) ∧ w'.cell? ⟨A, 1, none⟩ = some (.int .i64 a2) ∧ w'.cell? ⟨A, 2, none⟩ = some (.int .i64 a3) ∧ w'.cell? ⟨A, 3, none⟩ = some (.string a4) ∧ w'.cell? ⟨A, 4, none⟩ = some (.string a5) ∧ w'.cell? ⟨A + 1, 0, none⟩ = some (.int .i64 b1) ∧ w'.cell? ⟨A + 1, 1, none⟩ = some (.int .i64 b2) ∧ w'.cell? ⟨A + 1, 2, none⟩ = some (.int .i64 b3) ∧ w'.cell? ⟨A + 1, 3, none⟩ = some (.string b4) ∧ w'.cell? ⟨A + 1, 4, none⟩ = some (.string b5)) ((first | exact keep2 (by assumption) (by assumption) | (refine ⟨?_, ?_, ?_, ?_, ?_, ?_, ?_, ?_, ?_, ?_⟩ <;> (refine World.grownBy.cell (by assumption) ?_ (by simp); assumption)) | go_keep)) (first | (go_at_call_of 9 a4; refine (Va.out _).mono ?_; rintro e wa ⟨rfl, hga⟩) | (go_at_call_of 9 b4; refine (Vb.out _).mono ?_; rintro e wb ⟨rfl, hgb⟩) | (go_at_call 15; refine (Cx.out _).mono ?_; rintro e W5 ⟨rfl, hg5⟩))
    have hgs : W4.grownBy W5 none := gb_trans (gb_trans (gb_undrew hga) hgb) hg5
    replace STa : Hid (St A a1 a2 a3 a4 a5 W5) := STa.out.grow hgs
    replace STb : Hid (St (A + 1) b1 b2 b3 b4 b5 W5) := STb.out.grow hgs
    replace STn : Hid (St N a1 a2 n3 n4 ⟨#[]⟩ W5) := STn.out.grow hgs
    replace HG : Hid (w.grownBy W5 none) := gb_trans HG.out hgs
    clear hgs hga hgb hg5 s1 s2 s3 s4 s5 s6 s7 s8 s9 s10
    go_wp2
    obtain ⟨s1, s2, s3, s4, s5⟩ := STb.out
    obtain ⟨s6, s7, s8, s9, s10⟩ := STn.out
    go_region_held3 (fun w' => w'.cell? ⟨A + 1, 0, none⟩ = some (.int .i64 b1) ∧ w'.cell? ⟨A + 1, 1, none⟩ = some (.int .i64 b2) ∧ w'.cell? ⟨A + 1, 2, none⟩ = some (.int .i64 b3) ∧ w'.cell? ⟨A + 1, 3, none⟩ = some (.string b4) ∧ w'.cell? ⟨A + 1, 4, none⟩ = some (.string b5) ∧ w'.cell? ⟨N, 0, none⟩ = some (.int .i64 a1) ∧ w'.cell? ⟨N, 1, none⟩ = some (.int .i64 a2) ∧ w'.cell? ⟨N, 2, none⟩ = some (.int .i64 n3) ∧ w'.cell? ⟨N, 3, none⟩ = some (.string n4) ∧ w'.cell? ⟨N, 4, none⟩ = some (.string ⟨#[]⟩)) ((first | exact keep2 (by assumption) (by assumption) | (refine ⟨?_, ?_, ?_, ?_, ?_, ?_, ?_, ?_, ?_, ?_⟩ <;> (refine World.grownBy.cell (by assumption) ?_ (by simp); assumption)) | go_keep)) (first | (go_at_call_of 9 b4; refine (Vb.out _).mono ?_; rintro e wb ⟨rfl, hgb⟩) | (go_at_call 15; refine (Cy.out _).mono ?_; rintro e W6 ⟨rfl, hg6⟩))
    have hgs : W5.grownBy W6 none := gb_trans (gb_undrew hgb) hg6
    replace STa : Hid (St A a1 a2 a3 a4 a5 W6) := STa.out.grow hgs
    replace STb : Hid (St (A + 1) b1 b2 b3 b4 b5 W6) := STb.out.grow hgs
    replace STn : Hid (St N a1 a2 n3 n4 ⟨#[]⟩ W6) := STn.out.grow hgs
    replace HG : Hid (w.grownBy W6 none) := gb_trans HG.out hgs
    clear hgs hgb hg6 s1 s2 s3 s4 s5 s6 s7 s8 s9 s10
    go_wp2
    all_goals
      go_ret
      refine ⟨ret_bool ?_, HG.out⟩
      have hX := HX.out
      clear HX HG STa STb STn Cc Cx Cy Va Vb Vn HCN HCR HS HT GA
      first
        | rfl
        | (exfalso; omega)
        | (simp; omega)
  | false =>
    go_wp2
    rw [HW3.out, HN.out]
    clear HW3 HN
    obtain ⟨s1, s2, s3, s4, s5⟩ := STa.out
    obtain ⟨s6, s7, s8, s9, s10⟩ := STn.out
    go_region_held3 (fun w' => w'.cell? ⟨A, 0, none⟩ = some (.int .i64 a1) ∧ w'.cell? ⟨A, 1, none⟩ = some (.int .i64 a2) ∧ w'.cell? ⟨A, 2, none⟩ = some (.int .i64 a3) ∧ w'.cell? ⟨A, 3, none⟩ = some (.string a4) ∧ w'.cell? ⟨A, 4, none⟩ = some (.string a5) ∧ w'.cell? ⟨N, 0, none⟩ = some (.int .i64 a1) ∧ w'.cell? ⟨N, 1, none⟩ = some (.int .i64 a2) ∧ w'.cell? ⟨N, 2, none⟩ = some (.int .i64 n3) ∧ w'.cell? ⟨N, 3, none⟩ = some (.string n4) ∧ w'.cell? ⟨N, 4, none⟩ = some (.string ⟨#[]⟩)) ((first | exact keep2 (by assumption) (by assumption) | (refine ⟨?_, ?_, ?_, ?_, ?_, ?_, ?_, ?_, ?_, ?_⟩ <;> (refine World.grownBy.cell (by assumption) ?_ (by simp); assumption)) | go_keep)) (first | (go_at_call 14; refine (HCR.out _).mono ?_; rintro e w5 ⟨rfl, hg5⟩) | (go_at_call 9; refine (Vn.out _).mono ?_; rintro e w6 ⟨rfl, hg6⟩))
    go_wp2
    go_ret
    exact ⟨rfl, gb_trans HG.out (gb_trans (gb_undrew hg5) hg6)⟩
end Go.Proofs.YtlfekpgoibgplaaDoor
