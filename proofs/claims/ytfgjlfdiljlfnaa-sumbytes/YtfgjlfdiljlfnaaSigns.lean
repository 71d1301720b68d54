/-
  The walks of the small functions: sign, isSign, signValue, firstWrongSign, Check, IsDigest, num.
-/
import Derived.Test.YtfgjlfdiljlfnaaRows
import Derived.Test.YtfgjlfdiljlfnaaPlain
import Derived.Test.YtfgjlfdiljlfnaaShelf
import Derived.WalkLawsBesides
import Derived.Deep.QuietTactic
import Derived.BigQuiet
namespace Go.Proofs.Ytfgjlfdiljlfnaa
open Go.RowKit
theorem ret_int {k : IntKind} {a b : Int} (h : a = b) : Ending.returned (.int k a) = .returned (.int k b) := by rw [h]
theorem ret_bool {a b : Bool} (h : a = b) : Ending.returned (.bool a) = .returned (.bool b) := by rw [h]

set_option maxHeartbeats 400000 in
theorem num_any (n : Int) (w : World) : Calls Try.prog 7 #[.int .i64 n] w fun e w' => e = .returned (.int .i64 n) ∧ w' = w := by
  go_enter Try.func7, Try.ntmps7
  go_wp2
  go_ret
  exact ⟨rfl, rfl⟩

set_option maxHeartbeats 400000 in
theorem sign_any (c : Int) (w : World) (h0 : 0 ≤ c) (h1 : c ≤ 255) : Calls Try.prog 14 #[.int .u8 c] w fun e w' => e = .returned (.int .i64 (sg c)) ∧ w' = w := by
  go_enter Try.func14, Try.ntmps14
  go_wp2
  all_goals go_ret
  all_goals refine ⟨ret_int ?_, rfl⟩
  all_goals (unfold sg; first | (rw [if_pos ⟨‹_›, ‹_›⟩]; done) | (rw [if_neg (by omega), if_pos (by omega)]; omega) | (rw [if_neg (by omega), if_neg (by omega)]))

set_option maxHeartbeats 400000 in
theorem isSign_any (c : Int) (w : World) : Calls Try.prog 16 #[.int .u8 c] w fun e w' => e = .returned (.bool (decide (0 ≤ sg c))) ∧ w' = w := by
  go_enter Try.func16, Try.ntmps16
  go_wp2
  all_goals go_ret
  all_goals (refine ⟨ret_bool ?_, rfl⟩; rw [Bool.eq_iff_iff]; simp [sg_nonneg]; omega)

set_option maxHeartbeats 400000 in
theorem signValue_any (c : Int) (w : World) (h0 : 0 ≤ sg c) : Calls Try.prog 12 #[.int .u8 c] w fun e w' => e = .returned (.int .u8 (sg c)) ∧ w' = w := by
  have h1 := sg_up c h0
  go_enter Try.func12, Try.ntmps12
  go_wp2
  · go_ret
    refine ⟨ret_int ?_, rfl⟩
    rw [sg_dig c h0 ‹_›]
  · go_ret
    refine ⟨ret_int ?_, rfl⟩
    have h2 := sg_97 c h0 ‹_›; rw [sg_let c h0 ‹_›]; omega

set_option maxHeartbeats 400000 in
theorem fw_any (s : ByteArray) (w : World) (hs : s.size ≤ maxLen) :
    Calls Try.prog 9 #[.string s] w fun e w' => e = .returned (.int .i64 (fw s.data.toList)) ∧ w' = w := by
  unfold maxLen at hs
  go_enter Try.func9, Try.ntmps9
  go_wp2
  go_loop [6] (fun i => ∃ k : Nat, k ≤ s.size ∧ i = .int .i64 k ∧ ∀ j, (hj : j < k) → (hz : j < s.data.toList.length) → okS s.data.toList[j] = true) (fun i => s.size - (intOf i).toNat)
  case atStart => exact ⟨0, Nat.zero_le _, rfl, fun j hj => absurd hj (by omega)⟩
  case round =>
    obtain ⟨k, hk, rfl, hp⟩ := hrel
    have HP : Hid (∀ j, (hj : j < k) → (hz : j < s.data.toList.length) → okS s.data.toList[j] = true) := hp
    clear hp
    by_cases hlt : k < s.size
    · by_cases hb : 0 ≤ sg (s[k].toNat : Int)
      · have hd : decide (0 ≤ sg (s[k].toNat : Int)) = true := by simpa using hb
        go_wp2_with (go_at_call 16; refine (isSign_any _ _).mono ?_; rintro e w' ⟨rfl, rfl⟩)
        go_round
        case rel =>
          refine ⟨k + 1, by omega, by go_num, fun j hj hz => ?_⟩
          by_cases hjk : j < k
          · exact HP.out j hjk hz
          · have e : j = k := by omega
            subst e
            rw [okS_iff]
            exact hb
        case measure => simp [intOf]; omega
      · have hd : decide (0 ≤ sg (s[k].toNat : Int)) = false := by simpa using hb
        go_wp2_with (go_at_call 16; refine (isSign_any _ _).mono ?_; rintro e w' ⟨rfl, rfl⟩)
        go_ret
        refine ⟨ret_int ?_, rfl⟩
        rw [fw_at s.data.toList k (by simpa using hlt) (fun j hj => HP.out j hj _) (by unfold okS; exact hd)]
    · have hks : k = s.size := by omega
      have HE : Hid (fw s.data.toList = s.size) := by
        show fw s.data.toList = s.size
        rw [fw_all s.data.toList (fun j hj => HP.out j (by simp at hj; have : s.size = s.data.size := rfl; omega) hj)]
        simp
      clear hks
      go_wp2
      go_ret
      exact ⟨ret_int (by rw [HE.out]), rfl⟩

def cutP (l : List UInt8) : List UInt8 := Lib.trimPrefix l pre
def hasP (l : List UInt8) : Bool := Lib.hasPrefix l pre
theorem cut_any (s : ByteArray) (w : World) : Calls Try.prog 15 #[.string s, .string ⟨#[115, 104, 97, 50, 53, 54, 58]⟩] w fun e w' => e = .returned (.tuple #[.string ⟨(cutP s.data.toList).toArray⟩, .bool (hasP s.data.toList)]) ∧ w' = w :=
  Try.strings_CutPrefix s _ w
theorem fw_list (l : List UInt8) (w : World) (hs : l.length ≤ maxLen) :
    Calls Try.prog 9 #[.string ⟨l.toArray⟩] w fun e w' => e = .returned (.int .i64 (fw l)) ∧ w' = w :=
  fw_any ⟨l.toArray⟩ w (by simpa [ByteArray.size] using hs)

def chk (l : List UInt8) : Bool := hasP l && (decide ((cutP l).length = 64) && decide (fw (cutP l) = (cutP l).length))
set_option maxHeartbeats 400000 in
theorem check_any (s : ByteArray) (w : World) :
    Calls Try.prog 6 #[.string s] w fun e w' => e = .returned (.bool (chk s.data.toList)) ∧ w' = w := by
  by_cases hp : hasP s.data.toList = true
  · by_cases hl : (cutP s.data.toList).length = 64
    · have hl' : (((cutP s.data.toList).length : Int) == 64) = true := by rw [hl]; rfl
      have HE : Hid (chk s.data.toList = decide (fw (cutP s.data.toList) = (cutP s.data.toList).length)) := by
        show chk s.data.toList = _
        unfold chk; rw [hp, hl]; rfl
      have hm : (cutP s.data.toList).length ≤ maxLen := by unfold maxLen; omega
      clear hl
      go_enter Try.func6, Try.ntmps6
      go_wp2_with (first | (go_at_call 15; refine (cut_any _ _).mono ?_; rintro e w' ⟨rfl, rfl⟩) | (go_at_call 9; refine (fw_list _ _ hm).mono ?_; rintro e w' ⟨rfl, rfl⟩))
      go_ret
      refine ⟨ret_bool ?_, rfl⟩
      rw [HE.out, Bool.eq_iff_iff]
      simp; omega
    · have hl' : (((cutP s.data.toList).length : Int) == 64) = false := by simp; omega
      have HE : Hid (chk s.data.toList = false) := by
        show chk s.data.toList = _
        unfold chk; rw [hp, decide_eq_false hl]; rfl
      clear hl
      go_enter Try.func6, Try.ntmps6
      go_wp2_with (first | (go_at_call 15; refine (cut_any _ _).mono ?_; rintro e w' ⟨rfl, rfl⟩))
      go_ret
      exact ⟨ret_bool HE.out.symm, rfl⟩
  · have hp' : hasP s.data.toList = false := by simpa using hp
    have HE : Hid (chk s.data.toList = false) := by
      show chk s.data.toList = _
      unfold chk; rw [hp']; rfl
    clear hp
    go_enter Try.func6, Try.ntmps6
    go_wp2_with (first | (go_at_call 15; refine (cut_any _ _).mono ?_; rintro e w' ⟨rfl, rfl⟩))
    go_ret
    exact ⟨ret_bool HE.out.symm, rfl⟩

set_option maxHeartbeats 400000 in
theorem isDigest_any (s : ByteArray) (w : World) (hs : s.size ≤ maxLen) :
    Calls Try.prog 8 #[.string s] w fun e w' => e = .returned (.bool (isDig s.data.toList)) ∧ w' = w := by
  unfold maxLen at hs
  by_cases hl : s.size = 71
  · have hl' : ((s.size : Int) != 71) = false := by simp; omega
    have h7 : 7 ≤ s.size := by omega
    by_cases hq : s.data.toList.take 7 = pre
    · have hq' : (!(s.extract 0 7).toList == [115, 104, 97, 50, 53, 54, 58]) = false := by rw [ex7, hq]; rfl
      have HE : Hid (isDig s.data.toList = decide (fw (s.data.toList.drop 7) = (s.data.toList.drop 7).length)) := dig_lead _ (by simpa using hl) hq
      clear hl hq
      go_enter Try.func8, Try.ntmps8
      go_wp2
      go_loop [3] (fun i => ∃ k : Nat, 7 ≤ k ∧ k ≤ s.size ∧ i = .int .i64 k ∧ ∀ j, (hj : j < k) → 7 ≤ j → (hz : j < s.data.toList.length) → okS s.data.toList[j] = true) (fun i => s.size - (intOf i).toNat)
      case atStart => exact ⟨7, by omega, h7, rfl, fun j hj h7' => absurd hj (by omega)⟩
      case round =>
        obtain ⟨k, hk7, hk, rfl, hp⟩ := hrel
        have HP : Hid (∀ j, (hj : j < k) → 7 ≤ j → (hz : j < s.data.toList.length) → okS s.data.toList[j] = true) := hp
        clear hp
        by_cases hlt : k < s.size
        · have hb256 : (s[k].toNat : Int) ≤ 255 := by have := s[k].toNat_lt; omega
          by_cases hb : 0 ≤ sg (s[k].toNat : Int)
          · go_wp2_with (go_at_call 14; refine (sign_any _ _ (by omega) (by omega)).mono ?_; rintro e w' ⟨rfl, rfl⟩)
            go_round
            case rel =>
              refine ⟨k + 1, by omega, by omega, by go_num, fun j hj h7 hz => ?_⟩
              by_cases hjk : j < k
              · exact HP.out j hjk h7 hz
              · have e : j = k := by omega
                subst e
                rw [okS_iff]
                exact hb
            case measure => simp [intOf]; omega
          · have hbn : sg (s[k].toNat : Int) < 0 := by omega
            have hd : decide (0 ≤ sg (s[k].toNat : Int)) = false := by simpa using hb
            have HF : Hid (isDig s.data.toList = false) := by
              show isDig s.data.toList = false
              rw [HE.out]
              exact fw_drop_no _ k hk7 (by simpa using hlt) HP.out hd
            clear hb hd
            go_wp2_with (go_at_call 14; refine (sign_any _ _ (by omega) (by omega)).mono ?_; rintro e w' ⟨rfl, rfl⟩)
            go_ret
            exact ⟨ret_bool HF.out.symm, rfl⟩
        · have HF : Hid (isDig s.data.toList = true) := by
            show isDig s.data.toList = true
            rw [HE.out]
            exact fw_drop_yes _ (fun j h7 hz => HP.out j (by simp at hz; have : s.size = s.data.size := rfl; omega) h7 hz)
          go_wp2
          go_ret
          exact ⟨ret_bool HF.out.symm, rfl⟩
    · have hq' : (!(s.extract 0 7).toList == [115, 104, 97, 50, 53, 54, 58]) = true := by rw [ex7]; simpa [pre] using hq
      have HE : Hid (isDig s.data.toList = false) := dig_not _ hq
      clear hl hq
      go_enter Try.func8, Try.ntmps8
      go_wp2
      go_ret
      exact ⟨ret_bool HE.out.symm, rfl⟩
  · have hl' : ((s.size : Int) != 71) = true := by simp; omega
    have HE : Hid (isDig s.data.toList = false) := by
      show isDig s.data.toList = _
      unfold isDig; rw [decide_eq_false (by simpa using hl)]; rfl
    clear hl
    go_enter Try.func8, Try.ntmps8
    go_wp2
    go_ret
    exact ⟨ret_bool HE.out.symm, rfl⟩
end Go.Proofs.Ytfgjlfdiljlfnaa
