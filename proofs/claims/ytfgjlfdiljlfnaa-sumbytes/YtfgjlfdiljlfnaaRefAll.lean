/-
  The document's Bytes, every text.
-/
import Derived.Test.YtfgjlfdiljlfnaaRef
namespace Go.Proofs.Ytfgjlfdiljlfnaa
open Go.RowKit

set_option maxHeartbeats 1000000 in
theorem ref_bad (s : ByteArray) (w : World) (hs : s.size ≤ maxLen) (hf : fw s.data.toList < s.data.toList.length) :
    Calls Try.prog 5 #[.string s] w fun e w' => e = .returned (.tuple #[.string ⟨([] : List UInt8).toArray⟩, .int .i64 2, .int .i64 (fw s.data.toList)]) ∧ w' = w := by
  unfold maxLen at hs
  have HF : Hid (∀ j, j < fw s.data.toList → (hz : j < s.size) → 0 ≤ sg (s[j].toNat : Int)) := fun j hj hz => (okS_iff _).1 (okS_below _ j hj (by simpa using hz))
  have HN : Hid (∀ j, j = fw s.data.toList → (hz : j < s.size) → sg (s[j].toNat : Int) < 0) := fun j hj hz => by
    subst hj
    have := okS_fw _ hf
    unfold okS at this
    have h2 := of_decide_eq_false this
    exact Int.not_le.1 h2
  have hl : fw s.data.toList < s.size := by simpa using hf
  clear hf
  go_enter Try.func5, Try.ntmps5
  go_wp2
  go_loop [5] (fun i => ∃ k : Nat, k ≤ fw s.data.toList ∧ i = .int .i64 k) (fun i => s.size - (intOf i).toNat)
  case atStart => exact ⟨0, Nat.zero_le _, rfl⟩
  case round =>
    obtain ⟨k, hk, rfl⟩ := hrel
    have hlt : k < s.size := by omega
    have hb256 : (s[k].toNat : Int) ≤ 255 := by have := s[k].toNat_lt; omega
    by_cases hkf : k < fw s.data.toList
    · have hb := HF.out k hkf hlt
      go_wp2_with (go_at_call 14; refine (sign_any _ _ (by omega) (by omega)).mono ?_; rintro e w' ⟨rfl, rfl⟩)
      go_round
      case rel => exact ⟨k + 1, by omega, by go_num⟩
      case measure => simp [intOf]; omega
    · have hb := HN.out k (by omega) hlt
      go_wp2_with (go_at_call 14; refine (sign_any _ _ (by omega) (by omega)).mono ?_; rintro e w' ⟨rfl, rfl⟩)
      go_ret3
      exact ⟨ret3 rfl rfl (by omega), rfl⟩

set_option maxHeartbeats 1000000 in
theorem ref_odd (s : ByteArray) (w : World) (hs : s.size ≤ maxLen) (hf : ¬ fw s.data.toList < s.data.toList.length) (hod : s.size % 2 = 1) :
    Calls Try.prog 5 #[.string s] w fun e w' => e = .returned (.tuple #[.string ⟨([] : List UInt8).toArray⟩, .int .i64 2, .int .i64 (s.data.toList.length : Int)]) ∧ w' = w := by
  unfold maxLen at hs
  have HF : Hid (∀ j, (hz : j < s.size) → 0 ≤ sg (s[j].toNat : Int)) := fun j hz => (okS_iff _).1 (okS_of_fw _ hf j (by simpa using hz))
  clear hf
  have ho : ((s.size : Int) % 2 == 1) = true := by simp; omega
  go_enter Try.func5, Try.ntmps5
  go_wp2
  go_loop [5] (fun i => ∃ k : Nat, k ≤ s.size ∧ i = .int .i64 k) (fun i => s.size - (intOf i).toNat)
  case atStart => exact ⟨0, Nat.zero_le _, rfl⟩
  case round =>
    obtain ⟨k, hk, rfl⟩ := hrel
    by_cases hlt : k < s.size
    · have hb256 : (s[k].toNat : Int) ≤ 255 := by have := s[k].toNat_lt; omega
      have hb := HF.out k hlt
      go_wp2_with (go_at_call 14; refine (sign_any _ _ (by omega) (by omega)).mono ?_; rintro e w' ⟨rfl, rfl⟩)
      go_round
      case rel => exact ⟨k + 1, by omega, by go_num⟩
      case measure => simp [intOf]; omega
    · go_wp2
      go_ret3
      exact ⟨ret3 rfl rfl (by simp), rfl⟩

theorem ref_any (s : ByteArray) (w : World) (hs : s.size ≤ maxLen) :
    Calls Try.prog 5 #[.string s] w fun e w' => e = .returned (.tuple #[.string ⟨(bOut s.data.toList).toArray⟩, .int .i64 (bErr s.data.toList), .int .i64 (bAt s.data.toList)]) ∧ Below w.heap.size w w' := by
  have hsz : s.data.toList.length = s.size := by simp
  by_cases hf : fw s.data.toList < s.data.toList.length
  · refine (ref_bad s w hs hf).mono ?_
    rintro e w' ⟨rfl, rfl⟩
    exact ⟨ret3 (by unfold bOut; rw [if_pos hf]) (by unfold bErr; rw [if_pos hf]) (by unfold bAt; rw [if_pos hf]), Below.refl _ _⟩
  · by_cases ho : s.size % 2 = 1
    · refine (ref_odd s w hs hf ho).mono ?_
      rintro e w' ⟨rfl, rfl⟩
      exact ⟨ret3 (by unfold bOut; rw [if_neg hf, if_pos (by omega)]) (by unfold bErr; rw [if_neg hf, if_pos (by omega)]) (by unfold bAt; rw [if_neg hf, if_pos (by omega)]), Below.refl _ _⟩
    · refine (ref_good s w hs hf (by omega)).mono ?_
      rintro e w' ⟨rfl, hb⟩
      exact ⟨ret3 (by unfold bOut; rw [if_neg hf, if_neg (by omega)]) (by unfold bErr; rw [if_neg hf, if_neg (by omega)]) (by unfold bAt; rw [if_neg hf, if_neg (by omega)]), hb⟩
end Go.Proofs.Ytfgjlfdiljlfnaa
