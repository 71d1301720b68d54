/-
  Digits and bytes of parts, by the document, walked.
-/
import Derived.Test.YtffogcjlpojpdaaDoorId
namespace Go.Proofs.YtffogcjlpojpdaaDoor
open Go.RowKit
set_option linter.unusedVariables false

set_option maxHeartbeats 400000 in
theorem rdigit_any (c : UInt8) (w : World) : Calls Tryd.prog 43 #[.int .u8 (c.toNat : Int)] w fun e w' => e = .returned (.bool (isD c)) ∧ w' = w := by
  go_enter Tryd.func43, Tryd.ntmps43
  go_wp2
  all_goals go_ret
  all_goals (refine ⟨ret_bool ?_, rfl⟩; rw [Bool.eq_iff_iff]; unfold isD; simp; omega)

set_option maxHeartbeats 400000 in
theorem rpartByte_any (c : UInt8) (w : World) : Calls Tryd.prog 33 #[.int .u8 (c.toNat : Int)] w fun e w' => e = .returned (.bool (isP c)) ∧ w' = w := by
  go_enter Tryd.func33, Tryd.ntmps33
  go_wp2_with (go_at_call 43; refine (rdigit_any _ _).mono ?_; rintro e w' ⟨rfl, rfl⟩)
  all_goals go_ret
  all_goals (refine ⟨ret_bool ?_, rfl⟩; rw [Bool.eq_iff_iff]; unfold isP; simp_all; try omega)

set_option maxHeartbeats 400000 in
theorem rdigits_any (s : ByteArray) (w : World) (hs : s.size < 2 ^ 62) :
    Calls Tryd.prog 34 #[.string s] w fun e w' => e = .returned (.bool (s.data.toList.all isD)) ∧ w' = w := by
  obtain ⟨R, hR⟩ : ∃ R, R = s.data.toList.all isD := ⟨_, rfl⟩
  have HR : Hid (R = s.data.toList.all isD) := hR
  rw [← hR]
  clear hR
  go_enter Tryd.func34, Tryd.ntmps34
  go_wp2
  go_loop [3] (fun i => ∃ k : Nat, k ≤ s.size ∧ i = .int .i64 k ∧ ∀ j, (hj : j < s.size) → j < k → isD s[j] = true) (fun i => s.size - (intOf i).toNat)
  case atStart => exact ⟨0, Nat.zero_le _, rfl, fun j hj h => absurd h (by omega)⟩
  case round =>
    obtain ⟨k, hk, rfl, hp⟩ := hrel
    have HP : Hid (∀ j, (hj : j < s.size) → j < k → isD s[j] = true) := hp
    clear hp
    by_cases hlt : k < s.size
    · cases hd : isD s[k] with
      | true =>
        go_wp2_with (go_at_call 43; refine (rdigit_any _ _).mono ?_; rintro e w' ⟨rfl, rfl⟩)
        go_round
        case rel =>
          refine ⟨k + 1, by omega, by go_num, fun j hj hjk => ?_⟩
          by_cases hjk' : j < k
          · exact HP.out j hj hjk'
          · have e : j = k := by omega
            subst e
            exact hd
        case measure => simp [intOf]; omega
      | false =>
        have HN : Hid (R = false) := by
          show R = false
          rw [HR.out, List.all_eq_false]
          exact ⟨s[k], List.mem_of_getElem? (get_data s k hlt), by simp [hd]⟩
        go_wp2_with (go_at_call 43; refine (rdigit_any _ _).mono ?_; rintro e w' ⟨rfl, rfl⟩)
        go_ret
        exact ⟨ret_bool HN.out.symm, rfl⟩
    · have HN : Hid (R = true) := by
        show R = true
        rw [HR.out, List.all_eq_true]
        intro c hc
        obtain ⟨j, hj, rfl⟩ := List.getElem_of_mem hc
        exact HP.out j (by simpa using hj) (by simp at hj; have : s.size = s.data.size := rfl; omega)
      clear hk
      go_wp2
      go_ret
      exact ⟨ret_bool HN.out.symm, rfl⟩

end Go.Proofs.YtffogcjlpojpdaaDoor
