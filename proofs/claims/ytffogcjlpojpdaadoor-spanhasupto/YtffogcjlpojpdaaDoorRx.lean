/-
  The document's order of texts and numbers, walked.
-/
import Derived.Test.YtffogcjlpojpdaaDoorRa
import Derived.Test.YtffogcjlpojpdaaDoorCe
namespace Go.Proofs.YtffogcjlpojpdaaDoor
open Go.RowKit
set_option linter.unusedVariables false

set_option maxHeartbeats 400000 in
theorem rorder_any (x y : Int) (w : World) : Calls Tryd.prog 49 #[.int .i64 x, .int .i64 y] w fun e w' => e = .returned (.int .i64 (Lib.compareInt x y)) ∧ w' = w := by
  go_enter Tryd.func49, Tryd.ntmps49
  go_wp2
  all_goals go_ret
  all_goals (refine ⟨ret_int ?_, rfl⟩; unfold Lib.compareInt; repeat' split)
  all_goals omega

set_option maxHeartbeats 400000 in
theorem rorderText_any (a b : ByteArray) (w : World) : Calls Tryd.prog 76 #[.string a, .string b] w fun e w' => e = .returned (.int .i64 (Lib.compareBytes a.data.toList b.data.toList)) ∧ w' = w := by
  cases h1 : Op.bytesLess a.toList b.toList with
  | true =>
    rw [less_m1 h1]
    go_enter Tryd.func76, Tryd.ntmps76
    go_wp2
    go_ret
    exact ⟨rfl, rfl⟩
  | false =>
    cases h2 : (!a.toList == b.toList) with
    | true =>
      rw [less_p1 h1 h2]
      go_enter Tryd.func76, Tryd.ntmps76
      go_wp2
      go_ret
      exact ⟨rfl, rfl⟩
    | false =>
      rw [less_0 h2]
      go_enter Tryd.func76, Tryd.ntmps76
      go_wp2
      go_ret
      exact ⟨rfl, rfl⟩

theorem bareR_stop (l : List UInt8) (h : l.length ≤ 1 ∨ l[0]? ≠ some 48) : bareR l = l := by
  match l with
  | [] => rfl
  | [c] => rfl
  | c :: d :: r =>
    have : c ≠ 48 := by
      rcases h with h | h
      · simp at h
      · simpa using h
    unfold bareR; rw [if_neg this]
theorem bareR_step (l : List UInt8) (h1 : 1 < l.length) (h : l[0]? = some 48) : bareR l = bareR (l.drop 1) := by
  match l with
  | [] => simp at h1
  | [c] => simp at h1
  | c :: d :: r =>
    have : c = 48 := by simpa using h
    conv => lhs; unfold bareR
    rw [if_pos this]; rfl
theorem mk_data (x : ByteArray) : (⟨x.data.toList.toArray⟩ : ByteArray) = x := by cases x; simp

set_option maxHeartbeats 400000 in
theorem rbare_any (s : ByteArray) (w : World) (hs : s.size < 2 ^ 62) :
    Calls Tryd.prog 77 #[.string s] w fun e w' => e = .returned (.string ⟨(bareR s.data.toList).toArray⟩) ∧ w' = w := by
  obtain ⟨R, hR⟩ : ∃ R, R = bareR s.data.toList := ⟨_, rfl⟩
  have HR : Hid (R = bareR s.data.toList) := hR
  rw [← hR]
  clear hR
  go_enter Tryd.func77, Tryd.ntmps77
  go_wp2
  go_loop [0] (fun v => ∃ x : ByteArray, v = .string x ∧ R = bareR x.data.toList) (fun v => sizeV v)
  case atStart => exact ⟨s, rfl, HR.out⟩
  case round =>
    obtain ⟨x, rfl, hr⟩ := hrel
    have HX : Hid (R = bareR x.data.toList) := hr
    clear hr
    by_cases h1 : 1 < x.size
    · have h0 : 0 < x.size := by omega
      cases hz : ((x[0].toNat : Int) == 48) with
      | true =>
        have hc : x[0] = 48 := UInt8.toNat_inj.1 (by have := eq_of_beq hz; have e48 : (48 : UInt8).toNat = 48 := rfl; omega)
        obtain ⟨Y, hY⟩ : ∃ Y : ByteArray, Y = ⟨(x.data.toList.drop 1).toArray⟩ := ⟨_, rfl⟩
        have HY : Hid (R = bareR Y.data.toList) := by
          show R = bareR Y.data.toList
          rw [HX.out, bareR_step _ (by simpa using h1) (by rw [get_data x 0 h0, hc]), hY]
        have HL : Hid (Y.size < x.size) := by
          show Y.size < x.size
          rw [hY]; show (x.data.toList.drop 1).toArray.size < x.size
          simp; omega
        have sl : ∀ wx, (Instr.slice 9 (.string x) (some (.int .i64 1)) none none).run Tryd.prog wx = .ok (.string Y) wx := fun wx => by rw [hY]; exact run_suf x 1 (by omega) wx
        clear hY hc
        go_wp2
        go_round
        case rel => exact ⟨Y, rfl, HY.out⟩
        case measure => exact HL.out
      | false =>
        have HS : Hid (R = x.data.toList) := by
          show R = x.data.toList
          rw [HX.out]
          refine bareR_stop _ (Or.inr ?_)
          rw [get_data x 0 h0]
          intro e
          have e' : x[0] = 48 := Option.some.inj e
          rw [e'] at hz
          exact absurd hz (by decide)
        go_wp2
        go_ret
        exact ⟨by rw [HS.out, mk_data]; rfl, rfl⟩
    · have HS : Hid (R = x.data.toList) := by
        show R = x.data.toList
        rw [HX.out]
        exact bareR_stop _ (Or.inl (by simp; exact Nat.le_of_not_lt h1))
      go_wp2
      go_ret
      exact ⟨by rw [HS.out, mk_data]; rfl, rfl⟩

end Go.Proofs.YtffogcjlpojpdaaDoor
