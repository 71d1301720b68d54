/-
  The walk of the document's Bytes.
-/
import Derived.Test.YtfgjlfdiljlfnaaSigns
import Derived.Deep.RegionWith
import Derived.Deep.DrawnRows
namespace Go.Proofs.Ytfgjlfdiljlfnaa
open Go.RowKit
attribute [local go_sem ↓] Go.wp_at_zero Go.wp_at_succ

theorem ret3 {a a' : List UInt8} {b b' c c' : Int} (h1 : a = a') (h2 : b = b') (h3 : c = c') : Ending.returned (.tuple #[.string ⟨a.toArray⟩, .int .i64 b, .int .i64 c]) = .returned (.tuple #[.string ⟨a'.toArray⟩, .int .i64 b', .int .i64 c']) := by rw [h1, h2, h3]

theorem wr64 (n : Int) (h0 : -9223372036854775808 ≤ n) (h1 : n ≤ 9223372036854775807) : IntKind.i64.wrap n = n := by rw [IntKind.wrap_i64]; omega
theorem wr8 (n : Int) (h0 : 0 ≤ n) (h1 : n ≤ 255) : IntKind.u8.wrap n = n := by unfold IntKind.wrap; simp [IntKind.bits, IntKind.signed]; omega
theorem conv_one (w : World) (c : Int) : (convert 31 9 (.slice (some ⟨w.heap.size, 0, none⟩) 1 1)).run Try.prog (w.alloc (.cells #[.int .u8 c] 5)).drew = .ok (.string ⟨#[UInt8.ofNat c.toNat]⟩) (w.alloc (.cells #[.int .u8 c] 5)).drew := by
  rw [run_convert_bytes_string _ 31 9 5 _ 1 1 Try.underlying31 Try.underlying5 Try.underlying9]
  rw [run_bytesToString _ _ 1 1 [c] (run_loadCells_list _ _ [.int .u8 c] (by
    intro j v hj
    match j, hj with
    | 0, hj => simp at hj; subst hj; simp [Addr.add]))]
  rfl
theorem add_one (x : List UInt8) (b : UInt8) (wx : World) (h : x.length ≤ 9223372036854775806) : (Op.stringOp .add ⟨x.toArray⟩ ⟨#[b]⟩).run Try.prog wx = .ok (.string ⟨(x ++ [b]).toArray⟩) wx := by
  rw [run_string_add_sum wx _ _ (by
    show x.toArray.size + 1 ≤ _
    simp
    omega)]
  rw [show (⟨#[b]⟩ : ByteArray) = ⟨[b].toArray⟩ from rfl, ByteArray.mk_append_mk]
set_option maxHeartbeats 1000000 in
theorem ref_good (s : ByteArray) (w : World) (hs : s.size ≤ maxLen) (hf : ¬ fw s.data.toList < s.data.toList.length) (hev : s.size % 2 = 0) :
    Calls Try.prog 5 #[.string s] w fun e w' => e = .returned (.tuple #[.string ⟨(dec s.data.toList).toArray⟩, .int .i64 0, .int .i64 0]) ∧ Below w.heap.size w w' := by
  unfold maxLen at hs
  have HF : Hid (∀ j, (hz : j < s.size) → 0 ≤ sg (s[j].toNat : Int)) := fun j hz => (okS_iff _).1 (okS_of_fw _ hf j (by simpa using hz))
  clear hf
  have ho : ((s.size : Int) % 2 == 1) = false := by simp; omega
  go_enter Try.func5, Try.ntmps5
  go_wp2
  go_loop [5] (fun i => ∃ k : Nat, k ≤ s.size ∧ i = .int .i64 k) (fun i => s.size - (intOf i).toNat)
  case atStart => exact ⟨0, Nat.zero_le _, rfl⟩
  case round =>
    obtain ⟨k, hk, rfl⟩ := hrel
    by_cases hlt : k < s.size
    · have hb256 : (s[k].toNat : Int) ≤ 255 := by have := s[k].toNat_lt; omega
      have hb := HF.out k hlt
      go_wp2_with (go_at_call 14; refine (sign_any _ _ (by omega) (by omega)).mono ?_; rintro e w' ⟨rfl, rfl⟩)
      go_round
      case rel => exact ⟨k + 1, by omega, by go_num⟩
      case measure => simp [intOf]; omega
    · go_wp2
      go_loopw [6, 7] (fun o i wr => ∃ k : Nat, k ≤ s.size ∧ k % 2 = 0 ∧ i = .int .i64 k ∧ o = .string ⟨(dec (s.data.toList.take k)).toArray⟩ ∧ Below w.heap.size w wr) (fun _ i _ => s.size - (intOf i).toNat)
      case atStart => exact ⟨0, Nat.zero_le _, rfl, rfl, rfl, Below.refl _ _⟩
      case round =>
        obtain ⟨j, hj, hje, rfl, rfl, hbl⟩ := hrel
        by_cases hlt2 : j < s.size
        · have h1 : j + 1 < s.size := by omega
          have ha256 : (s[j].toNat : Int) ≤ 255 := by have := s[j].toNat_lt; omega
          have hb256 : (s[j + 1].toNat : Int) ≤ 255 := by have := s[j + 1].toNat_lt; omega
          have ha := HF.out j hlt2
          have hb := HF.out (j + 1) h1
          have ha15 := sg_hi (s[j].toNat : Int)
          have hb15 := sg_hi (s[j + 1].toNat : Int)
          have hi0 : (0 : Int) ≤ (j : Int) := by omega
          have hi1 : (j : Int) < (s.size : Int) := by omega
          have hi2 : (0 : Int) ≤ (j : Int) + 1 := by omega
          have hi3 : (j : Int) + 1 < (s.size : Int) := by omega
          have hw1 : IntKind.i64.wrap ((j : Int) + 1) = (j : Int) + 1 := wr64 _ (by omega) (by omega)
          have hw2 : IntKind.i64.wrap (sg (s[j].toNat : Int) * 16) = sg (s[j].toNat : Int) * 16 := wr64 _ (by omega) (by omega)
          have hw3 : IntKind.i64.wrap (sg (s[j].toNat : Int) * 16 + sg (s[j + 1].toNat : Int)) = sg (s[j].toNat : Int) * 16 + sg (s[j + 1].toNat : Int) := wr64 _ (by omega) (by omega)
          have hw4 : IntKind.u8.wrap (sg (s[j].toNat : Int) * 16 + sg (s[j + 1].toNat : Int)) = sg (s[j].toNat : Int) * 16 + sg (s[j + 1].toNat : Int) := wr8 _ (by omega) (by omega)
          have hcv := conv_one wr (sg (s[j].toNat : Int) * 16 + sg (s[j + 1].toNat : Int))
          have hlen : (dec (s.data.toList.take j)).length = j / 2 := dec_length _ _ (by simp; have : s.size = s.data.size := rfl; omega)
          have hadd : ∀ wx, (Op.stringOp .add ⟨(dec (s.data.toList.take j)).toArray⟩ ⟨#[UInt8.ofNat (sg (s[j].toNat : Int) * 16 + sg (s[j + 1].toNat : Int)).toNat]⟩).run Try.prog wx = .ok (.string ⟨(dec (s.data.toList.take (j + 2))).toArray⟩) wx := by
            intro wx
            rw [add_one _ _ _ (by omega), two_of _ _ ha hb, dec_even _ j hje (by simpa using h1)]
            rfl
          clear hlen
          go_wp2
          go_region_with (first | (go_at_call 14; refine (sign_any _ _ (by omega) (by omega)).mono ?_; rintro e w' ⟨rfl, rfl⟩))
          all_goals go_wp2
          all_goals
            go_roundw
            case rel => exact ⟨j + 2, by omega, by omega, by go_num, rfl, (hbl.alloc (by have := hbl.size; omega) _).drew⟩
            case measure => simp [intOf]; omega
        · have hje2 : j = s.size := by omega
          have HE : Hid (s.data.toList.take j = s.data.toList) := by
            show s.data.toList.take j = s.data.toList
            rw [List.take_of_length_le (by simp; have : s.size = s.data.size := rfl; omega)]
          clear hje2
          go_wp2
          go_ret3
          refine ⟨ret3 ?_ rfl rfl, hbl⟩
          rw [HE.out]
end Go.Proofs.Ytfgjlfdiljlfnaa
