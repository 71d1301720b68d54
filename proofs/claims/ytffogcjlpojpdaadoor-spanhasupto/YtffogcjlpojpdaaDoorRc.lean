/-
  The document's Compare, walked.
-/
import Derived.Test.YtffogcjlpojpdaaDoorRb
import Derived.Test.YtffogcjlpojpdaaDoorLk
import Derived.Test.YtffogcjlpojpdaaDoorCe
namespace Go.Proofs.YtffogcjlpojpdaaDoor
open Go.RowKit
set_option linter.unusedVariables false

set_option maxHeartbeats 1600000 in
theorem rcompare_any (a1 a2 a3 b1 b2 b3 : Int) (a4 a5 b4 b5 : ByteArray) (w : World) (hs : a4.size ≤ 1048576) (hs' : b4.size ≤ 1048576) :
    Calls Tryd.prog 39 #[.agg #[.int .i64 a1, .int .i64 a2, .int .i64 a3, .string a4, .string a5], .agg #[.int .i64 b1, .int .i64 b2, .int .i64 b3, .string b4, .string b5]] w fun e w' => e = .returned (.int .i64 (verC ⟨a1, a2, a3, a4.data.toList⟩ ⟨b1, b2, b3, b4.data.toList⟩)) ∧ Below w.heap.size w w' := by
  obtain ⟨R, hR⟩ : ∃ R, R = verC ⟨a1, a2, a3, a4.data.toList⟩ ⟨b1, b2, b3, b4.data.toList⟩ := ⟨_, rfl⟩
  have HR : Hid (R = verC ⟨a1, a2, a3, a4.data.toList⟩ ⟨b1, b2, b3, b4.data.toList⟩) := hR
  obtain ⟨p, hp⟩ : ∃ p, p = listC partC (splitD a4.data.toList) (splitD b4.data.toList) := ⟨_, rfl⟩
  have HP : Hid (p = listC partC (splitD a4.data.toList) (splitD b4.data.toList)) := hp
  have OP : Hid (∀ w, Calls Tryd.prog 50 #[.string a4, .string b4] w fun e w' => e = .returned (.int .i64 p) ∧ Below w.heap.size w w') := fun w => by rw [hp]; exact rorderPre_any a4 b4 w hs hs'
  have B2 : Hid (∀ o1 o2, Below w.heap.size w ((w.alloc o1).alloc o2)) := fun o1 o2 => gb_below (gb_alloc (gb_alloc (gb_refl w none) _) _)
  rw [← hR]
  clear hR hp hs hs'
  cases h1 : (a1 == b1) with
  | false =>
    have HZ : Hid (R = Lib.compareInt a1 b1) := by
      show R = _
      rw [HR.out, verC_eq]
      simp only
      rw [if_neg (fun e => (by simpa using h1 : ¬ a1 = b1) (cmp_zero.1 e))]
    go_enter Tryd.func39, Tryd.ntmps39
    go_wp2_with (first | (go_at_call 49; refine (rorder_any _ _ _).mono ?_; rintro e w' ⟨rfl, rfl⟩) | (go_at_call 50; refine (OP.out _).mono ?_; rintro e w3 ⟨rfl, hb3⟩))
    go_ret
    exact ⟨ret_int HZ.out.symm, B2.out _ _⟩
  | true =>
    cases h2 : (a2 == b2) with
    | false =>
      have HZ : Hid (R = Lib.compareInt a2 b2) := by
        show R = _
        rw [HR.out, verC_eq]
        simp only
        rw [if_pos (cmp_zero.2 (eq_of_beq h1)), if_neg (fun e => (by simpa using h2 : ¬ a2 = b2) (cmp_zero.1 e))]
      go_enter Tryd.func39, Tryd.ntmps39
      go_wp2_with (first | (go_at_call 49; refine (rorder_any _ _ _).mono ?_; rintro e w' ⟨rfl, rfl⟩) | (go_at_call 50; refine (OP.out _).mono ?_; rintro e w3 ⟨rfl, hb3⟩))
      go_ret
      exact ⟨ret_int HZ.out.symm, B2.out _ _⟩
    | true =>
      cases h3 : (a3 == b3) with
      | false =>
        have HZ : Hid (R = Lib.compareInt a3 b3) := by
          show R = _
          rw [HR.out, verC_eq]
          simp only
          rw [if_pos (cmp_zero.2 (eq_of_beq h1)), if_pos (cmp_zero.2 (eq_of_beq h2)), if_neg (fun e => (by simpa using h3 : ¬ a3 = b3) (cmp_zero.1 e))]
        go_enter Tryd.func39, Tryd.ntmps39
        go_wp2_with (first | (go_at_call 49; refine (rorder_any _ _ _).mono ?_; rintro e w' ⟨rfl, rfl⟩) | (go_at_call 50; refine (OP.out _).mono ?_; rintro e w3 ⟨rfl, hb3⟩))
        go_ret
        exact ⟨ret_int HZ.out.symm, B2.out _ _⟩
      | true =>
        have HQ : Hid (R = preC a4.data.toList b4.data.toList) := by
          show R = _
          rw [HR.out, verC_eq]
          simp only
          rw [if_pos (cmp_zero.2 (eq_of_beq h1)), if_pos (cmp_zero.2 (eq_of_beq h2)), if_pos (cmp_zero.2 (eq_of_beq h3))]
        cases he : (a4.toList == b4.toList) with
        | true =>
          have HZ : Hid (R = 0) := by
            show R = 0
            have e : a4.data.toList = b4.data.toList := by rw [← Lib.toList_data, ← Lib.toList_data]; exact eq_of_beq he
            rw [HQ.out, e]; exact good_pre.self _
          go_enter Tryd.func39, Tryd.ntmps39
          go_wp2_with (first | (go_at_call 49; refine (rorder_any _ _ _).mono ?_; rintro e w' ⟨rfl, rfl⟩) | (go_at_call 50; refine (OP.out _).mono ?_; rintro e w3 ⟨rfl, hb3⟩))
          go_ret
          exact ⟨ret_int HZ.out.symm, B2.out _ _⟩
        | false =>
          by_cases ha : a4.size = 0
          · have c1 := emp_t ha
            have HZ : Hid (R = 1) := by
              show R = 1
              have e : a4.data.toList = [] := List.length_eq_zero_iff.1 (by simpa using ha)
              have hb : b4.data.toList ≠ [] := by
                intro hb
                rw [Lib.toList_data, Lib.toList_data, e, hb] at he
                exact absurd he (by decide)
              rw [HQ.out, pre_empty _ _ (Or.inl e), e]
              exact cmp_gt (by have := List.length_pos_iff.2 hb; simp only [List.length_nil]; omega)
            clear ha
            go_enter Tryd.func39, Tryd.ntmps39
            go_wp2_with (first | (go_at_call 49; refine (rorder_any _ _ _).mono ?_; rintro e w' ⟨rfl, rfl⟩) | (go_at_call 50; refine (OP.out _).mono ?_; rintro e w3 ⟨rfl, hb3⟩))
            go_ret
            exact ⟨ret_int HZ.out.symm, B2.out _ _⟩
          · have c1 := emp_f ha
            by_cases hb : b4.size = 0
            · have c2 := emp_t hb
              have HZ : Hid (R = -1) := by
                show R = -1
                have e : b4.data.toList = [] := List.length_eq_zero_iff.1 (by simpa using hb)
                have ha' : a4.data.toList ≠ [] := fun h => ha (by show a4.data.size = 0; rw [← Array.length_toList, h]; rfl)
                rw [HQ.out, pre_empty _ _ (Or.inr e), e]
                exact cmp_lt (by have := List.length_pos_iff.2 ha'; simp only [List.length_nil]; omega)
              clear ha hb
              go_enter Tryd.func39, Tryd.ntmps39
              go_wp2_with (first | (go_at_call 49; refine (rorder_any _ _ _).mono ?_; rintro e w' ⟨rfl, rfl⟩) | (go_at_call 50; refine (OP.out _).mono ?_; rintro e w3 ⟨rfl, hb3⟩))
              go_ret
              exact ⟨ret_int HZ.out.symm, B2.out _ _⟩
            · have c2 := emp_f hb
              have HZ : Hid (R = p) := by
                show R = p
                rw [HQ.out, HP.out]
                exact pre_full _ _ (fun h => ha (by show a4.data.size = 0; rw [← Array.length_toList, h]; rfl)) (fun h => hb (by show b4.data.size = 0; rw [← Array.length_toList, h]; rfl))
              clear ha hb
              go_enter Tryd.func39, Tryd.ntmps39
              go_wp2_with (first | (go_at_call 49; refine (rorder_any _ _ _).mono ?_; rintro e w' ⟨rfl, rfl⟩) | (go_at_call 50; refine (OP.out _).mono ?_; rintro e w3 ⟨rfl, hb3⟩))
              go_ret
              exact ⟨ret_int HZ.out.symm, (B2.out _ _).trans (hb3.mono (B2.out _ _).size)⟩
end Go.Proofs.YtffogcjlpojpdaaDoor
