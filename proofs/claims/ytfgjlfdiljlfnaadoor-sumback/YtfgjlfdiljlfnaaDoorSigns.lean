/-
  The walks of the small functions: sign, isSign, signValue, firstWrongSign, Check, IsDigest, num.
-/
import Derived.Test.YtfgjlfdiljlfnaaDoorRows
import Derived.Test.YtfgjlfdiljlfnaaDoorPlain
import Derived.Test.YtfgjlfdiljlfnaaDoorShelf
import Derived.WalkLawsBesides
import Derived.Deep.QuietTactic
import Derived.BigQuiet
namespace Go.Proofs.YtfgjlfdiljlfnaaDoor
open Go.RowKit
theorem ret_int {k : IntKind} {a b : Int} (h : a = b) : Ending.returned (.int k a) = .returned (.int k b) := by rw [h]
theorem ret_bool {a b : Bool} (h : a = b) : Ending.returned (.bool a) = .returned (.bool b) := by rw [h]

set_option maxHeartbeats 400000 in
theorem num_any (n : Int) (w : World) : Calls Tryd.prog 13 #[.int .i64 n] w fun e w' => e = .returned (.int .i64 n) ∧ w' = w := by
  go_enter Tryd.func13, Tryd.ntmps13
  go_wp2
  go_ret
  exact ⟨rfl, rfl⟩

set_option maxHeartbeats 400000 in
theorem isSign_any (c : Int) (w : World) : Calls Tryd.prog 40 #[.int .u8 c] w fun e w' => e = .returned (.bool (decide (0 ≤ sg c))) ∧ w' = w := by
  go_enter Tryd.func40, Tryd.ntmps40
  go_wp2
  all_goals go_ret
  all_goals (refine ⟨ret_bool ?_, rfl⟩; rw [Bool.eq_iff_iff]; simp [sg_nonneg]; omega)

set_option maxHeartbeats 400000 in
theorem signValue_any (c : Int) (w : World) (h0 : 0 ≤ sg c) : Calls Tryd.prog 29 #[.int .u8 c] w fun e w' => e = .returned (.int .u8 (sg c)) ∧ w' = w := by
  have h1 := sg_up c h0
  go_enter Tryd.func29, Tryd.ntmps29
  go_wp2
  · go_ret
    refine ⟨ret_int ?_, rfl⟩
    rw [sg_dig c h0 ‹_›]
  · go_ret
    refine ⟨ret_int ?_, rfl⟩
    have h2 := sg_97 c h0 ‹_›; rw [sg_let c h0 ‹_›]; omega

set_option maxHeartbeats 400000 in
theorem fw_any (s : ByteArray) (w : World) (hs : s.size ≤ maxLen) :
    Calls Tryd.prog 28 #[.string s] w fun e w' => e = .returned (.int .i64 (fw s.data.toList)) ∧ w' = w := by
  unfold maxLen at hs
  go_enter Tryd.func28, Tryd.ntmps28
  go_wp2
  go_loop [6] (fun i => ∃ k : Nat, k ≤ s.size ∧ i = .int .i64 k ∧ ∀ j, (hj : j < k) → (hz : j < s.data.toList.length) → okS s.data.toList[j] = true) (fun i => s.size - (intOf i).toNat)
  case atStart => exact ⟨0, Nat.zero_le _, rfl, fun j hj => absurd hj (by omega)⟩
  case round =>
    obtain ⟨k, hk, rfl, hp⟩ := hrel
    have HP : Hid (∀ j, (hj : j < k) → (hz : j < s.data.toList.length) → okS s.data.toList[j] = true) := hp
    clear hp
    by_cases hlt : k < s.size
    · by_cases hb : 0 ≤ sg (s[k].toNat : Int)
      · have hd : decide (0 ≤ sg (s[k].toNat : Int)) = true := by simpa using hb
        go_wp2_with (go_at_call 40; refine (isSign_any _ _).mono ?_; rintro e w' ⟨rfl, rfl⟩)
        go_round
        case rel =>
          refine ⟨k + 1, by omega, by go_num, fun j hj hz => ?_⟩
          by_cases hjk : j < k
          · exact HP.out j hjk hz
          · have e : j = k := by omega
            subst e
            rw [okS_iff]
            exact hb
        case measure => simp [intOf]; omega
      · have hd : decide (0 ≤ sg (s[k].toNat : Int)) = false := by simpa using hb
        go_wp2_with (go_at_call 40; refine (isSign_any _ _).mono ?_; rintro e w' ⟨rfl, rfl⟩)
        go_ret
        refine ⟨ret_int ?_, rfl⟩
        rw [fw_at s.data.toList k (by simpa using hlt) (fun j hj => HP.out j hj _) (by unfold okS; exact hd)]
    · have hks : k = s.size := by omega
      have HE : Hid (fw s.data.toList = s.size) := by
        show fw s.data.toList = s.size
        rw [fw_all s.data.toList (fun j hj => HP.out j (by simp at hj; have : s.size = s.data.size := rfl; omega) hj)]
        simp
      clear hks
      go_wp2
      go_ret
      exact ⟨ret_int (by rw [HE.out]), rfl⟩

def cutP (l : List UInt8) : List UInt8 := Lib.trimPrefix l pre
def hasP (l : List UInt8) : Bool := Lib.hasPrefix l pre
theorem cut_any (s : ByteArray) (w : World) : Calls Tryd.prog 30 #[.string s, .string ⟨#[115, 104, 97, 50, 53, 54, 58]⟩] w fun e w' => e = .returned (.tuple #[.string ⟨(cutP s.data.toList).toArray⟩, .bool (hasP s.data.toList)]) ∧ w' = w :=
  Tryd.strings_CutPrefix s _ w
theorem fw_list (l : List UInt8) (w : World) (hs : l.length ≤ maxLen) :
    Calls Tryd.prog 28 #[.string ⟨l.toArray⟩] w fun e w' => e = .returned (.int .i64 (fw l)) ∧ w' = w :=
  fw_any ⟨l.toArray⟩ w (by simpa [ByteArray.size] using hs)

def chk (l : List UInt8) : Bool := hasP l && (decide ((cutP l).length = 64) && decide (fw (cutP l) = (cutP l).length))
set_option maxHeartbeats 400000 in
theorem check_any (s : ByteArray) (w : World) :
    Calls Tryd.prog 11 #[.string s] w fun e w' => e = .returned (.bool (chk s.data.toList)) ∧ w' = w := by
  by_cases hp : hasP s.data.toList = true
  · by_cases hl : (cutP s.data.toList).length = 64
    · have hl' : (((cutP s.data.toList).length : Int) == 64) = true := by rw [hl]; rfl
      have HE : Hid (chk s.data.toList = decide (fw (cutP s.data.toList) = (cutP s.data.toList).length)) := by
        show chk s.data.toList = _
        unfold chk; rw [hp, hl]; rfl
      have hm : (cutP s.data.toList).length ≤ maxLen := by unfold maxLen; omega
      clear hl
      go_enter Tryd.func11, Tryd.ntmps11
      go_wp2_with (first | (go_at_call 30; refine (cut_any _ _).mono ?_; rintro e w' ⟨rfl, rfl⟩) | (go_at_call 28; refine (fw_list _ _ hm).mono ?_; rintro e w' ⟨rfl, rfl⟩))
      go_ret
      refine ⟨ret_bool ?_, rfl⟩
      rw [HE.out, Bool.eq_iff_iff]
      simp; omega
    · have hl' : (((cutP s.data.toList).length : Int) == 64) = false := by simp; omega
      have HE : Hid (chk s.data.toList = false) := by
        show chk s.data.toList = _
        unfold chk; rw [hp, decide_eq_false hl]; rfl
      clear hl
      go_enter Tryd.func11, Tryd.ntmps11
      go_wp2_with (first | (go_at_call 30; refine (cut_any _ _).mono ?_; rintro e w' ⟨rfl, rfl⟩))
      go_ret
      exact ⟨ret_bool HE.out.symm, rfl⟩
  · have hp' : hasP s.data.toList = false := by simpa using hp
    have HE : Hid (chk s.data.toList = false) := by
      show chk s.data.toList = _
      unfold chk; rw [hp']; rfl
    clear hp
    go_enter Tryd.func11, Tryd.ntmps11
    go_wp2_with (first | (go_at_call 30; refine (cut_any _ _).mono ?_; rintro e w' ⟨rfl, rfl⟩))
    go_ret
    exact ⟨ret_bool HE.out.symm, rfl⟩

end Go.Proofs.YtfgjlfdiljlfnaaDoor
