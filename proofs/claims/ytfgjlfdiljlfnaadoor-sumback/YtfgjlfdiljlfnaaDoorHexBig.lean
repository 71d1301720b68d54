/-
  Hex and Bytes at whatever length.
-/
import Derived.Test.YtfgjlfdiljlfnaaDoorWb
namespace Go.Proofs.YtfgjlfdiljlfnaaDoor
open Go.RowKit
set_option linter.unusedVariables false
attribute [local go_sem ↓] Go.wp_at_zero Go.wp_at_succ

set_option maxHeartbeats 1000000 in
theorem hex_big (s : ByteArray) (w : World) (hs : s.size ≤ 140737488351232) :
    Calls Tryd.prog 9 #[.string s] w fun e w' => e = .returned (.string ⟨(hexF s.data.toList).toArray⟩) ∧ Below w.heap.size w w' := by
  go_enter Tryd.func9, Tryd.ntmps9
  go_wp2_with (first | (go_at_call 25; refine (grow_fits w.heap.size w.heap.size _ _ (by omega) (Nat.le_refl _) (heap_alloc_new w _) (by simp) (by omega)).mono ?_; rintro e w1 ⟨rfl, hb1, hbl1, hf1⟩))
  have hbl2 : Below w.heap.size w w1 := ((Below.refl _ _).alloc (Nat.le_refl _) _).trans hbl1
  have HB : Hid (Below w.heap.size w w1) := hbl2
  have HI : Hid (Lib.IsBuilder 53 5 w.heap.size w.heap.size (Lib.byteCells []) w1) := hb1
  have HF : Hid (Fits w.heap.size 0 (2 * s.size) w1) := by
    obtain ⟨p, cap, h3, h4⟩ := hf1
    exact ⟨p, cap, h3, by omega⟩
  clear hbl1 hbl2 hb1 hf1
  go_loopw [11] (fun i wr => ∃ k : Nat, k ≤ s.size ∧ i = .int .i64 k ∧ Lib.IsBuilder 53 5 w.heap.size w.heap.size (Lib.byteCells (hexF (s.data.toList.take k))) wr ∧ Below w.heap.size w wr ∧ Fits w.heap.size (hexF (s.data.toList.take k)).length (2 * s.size) wr) (fun i _ => s.size - (intOf i).toNat)
  case atStart => exact ⟨0, Nat.zero_le _, rfl, HI.out, HB.out, HF.out⟩
  case round =>
    obtain ⟨j, hj, rfl, hib, hbl, hfit⟩ := hrel
    have hsz := hbl.size
    by_cases hlt : j < s.size
    · have hb := s[j].toNat_lt
      obtain ⟨d1, hd1⟩ : ∃ d1, hexD (s[j].toNat / 16) = d1 := ⟨_, rfl⟩
      obtain ⟨d2, hd2⟩ : ∃ d2, hexD (s[j].toNat % 16) = d2 := ⟨_, rfl⟩
      obtain ⟨T, hT⟩ : ∃ T, hexF (s.data.toList.take j) = T := ⟨_, rfl⟩
      have hx1 : ∀ wx, (Instr.index 9 (.string ⟨#[48, 49, 50, 51, 52, 53, 54, 55, 56, 57, 97, 98, 99, 100, 101, 102]⟩) (.int .u8 ((s[j].toNat : Int) / 16))).run Tryd.prog wx = .ok (.int .u8 (d1.toNat : Int)) wx := fun wx => by rw [← hd1]; exact ixHex (s[j].toNat / 16) (by omega) wx
      have hx2 : ∀ wx, (Instr.index 9 (.string ⟨#[48, 49, 50, 51, 52, 53, 54, 55, 56, 57, 97, 98, 99, 100, 101, 102]⟩) (.int .u8 ((s[j].toNat : Int) % 16))).run Tryd.prog wx = .ok (.int .u8 (d2.toNat : Int)) wx := fun wx => by rw [← hd2]; exact ixHex (s[j].toNat % 16) (by omega) wx
      have HL1 : Hid (T.length + 1 ≤ 2 * s.size) := by
        show T.length + 1 ≤ 2 * s.size
        rw [← hT, hexF_len]; simp; omega
      have HL2 : Hid ((T ++ [d1]).length + 1 ≤ 2 * s.size) := by
        show (T ++ [d1]).length + 1 ≤ 2 * s.size
        rw [← hT]; simp [hexF_len]; omega
      have HE : Hid (hexF (s.data.toList.take (j + 1)) = T ++ [d1] ++ [d2]) := by
        show hexF (s.data.toList.take (j + 1)) = _
        rw [← hd1, ← hd2, ← hT, List.take_succ_eq_append_getElem (by simpa using hlt)]
        exact hexF_snoc _ _
      rw [hT] at hib hfit
      have HFit : Hid (Fits w.heap.size T.length (2 * s.size) wr) := hfit
      clear hfit
      clear hd1 hd2 hT
      go_wp2_with fail
      refine (byte_fits' w.heap.size w.heap.size (2 * s.size) T (d1.toNat : Int) wr hib HFit.out d1 rfl HL1.out hsz).mono ?_
      rintro e w2 ⟨rfl, hib2, hbl2, hf2⟩
      have HF2 : Hid (Fits w.heap.size (T ++ [d1]).length (2 * s.size) w2) := hf2
      clear hf2
      go_wp2_with fail
      refine (byte_fits' w.heap.size w.heap.size (2 * s.size) (T ++ [d1]) (d2.toNat : Int) w2 hib2 HF2.out d2 rfl HL2.out (Nat.le_trans hsz hbl2.size)).mono ?_
      rintro e w3 ⟨rfl, hib3, hbl3, hf3⟩
      have HF3 : Hid (Fits w.heap.size (T ++ [d1] ++ [d2]).length (2 * s.size) w3) := hf3
      clear hf3
      go_wp2
      go_roundw
      case rel => exact ⟨j + 1, by omega, by go_num, by rw [HE.out]; exact hib3, (hbl.trans hbl2).trans hbl3, by rw [HE.out]; exact HF3.out⟩
      case measure => simp [intOf]; omega
    · have HE : Hid (s.data.toList.take j = s.data.toList) := by
        show s.data.toList.take j = s.data.toList
        rw [List.take_of_length_le (by simp; have : s.size = s.data.size := rfl; omega)]
      go_wp2_with (go_at_call 27; refine (Tryd.Builder_String_any w.heap.size w.heap.size _ _ (by exact hib) (by exact hsz)).mono ?_; rintro e w2 ⟨rfl, hbl2⟩)
      go_ret
      refine ⟨?_, hbl.trans hbl2⟩
      rw [HE.out]; rfl

set_option maxHeartbeats 1000000 in
theorem bts_big (s : ByteArray) (w : World) (hs : s.size ≤ 281474976702464) (hf : ¬ fw s.data.toList < s.data.toList.length) (hev : s.size % 2 = 0) :
    Calls Tryd.prog 10 #[.string s] w fun e w' => e = .returned (.tuple #[.string ⟨(dec s.data.toList).toArray⟩, .int .i64 0, .int .i64 0]) ∧ Below w.heap.size w w' := by
  have HF : Hid (∀ j, (hz : j < s.size) → 0 ≤ sg (s[j].toNat : Int)) := fun j hz => (okS_iff _).1 (okS_of_fw _ hf j (by simpa using hz))
  have hf2 : ¬ fw s.data.toList < s.size := by simpa using hf
  clear hf
  have ho : ((s.size : Int) % 2 == 1) = false := by simp; omega
  have hm : s.size ≤ maxLen := by unfold maxLen; omega
  go_enter Tryd.func10, Tryd.ntmps10
  go_wp2_with (first | (go_at_call 28; refine (fw_any s _ hm).mono ?_; rintro e w0 ⟨rfl, h0⟩; subst w0) | (go_at_call 25; refine (grow_int w.heap.size w.heap.size _ _ (by omega) (Nat.le_refl _) (heap_alloc_new w _) (by simp) (by omega)).mono ?_; rintro e w1 ⟨rfl, hb1, hbl1⟩))
  have hbl2 : Below w.heap.size w w1 := ((Below.refl _ _).alloc (Nat.le_refl _) _).trans hbl1
  have HB : Hid (Below w.heap.size w w1) := hbl2
  have HI : Hid (Lib.IsBuilder 53 5 w.heap.size w.heap.size (Lib.byteCells []) w1) := hb1
  clear hbl1 hbl2 hb1
  go_loopw [7] (fun i wr => ∃ k : Nat, k ≤ s.size ∧ k % 2 = 0 ∧ i = .int .i64 k ∧ Lib.IsBuilder 53 5 w.heap.size w.heap.size (Lib.byteCells (dec (s.data.toList.take k))) wr ∧ Below w.heap.size w wr) (fun i _ => s.size - (intOf i).toNat)
  case atStart => exact ⟨0, Nat.zero_le _, rfl, rfl, HI.out, HB.out⟩
  case round =>
    obtain ⟨j, hj, hje, rfl, hib, hbl⟩ := hrel
    have hsz := hbl.size
    by_cases hlt2 : j < s.size
    · have h1 : j + 1 < s.size := by omega
      have ha256 : (s[j].toNat : Int) ≤ 255 := by have := s[j].toNat_lt; omega
      have hb256 : (s[j + 1].toNat : Int) ≤ 255 := by have := s[j + 1].toNat_lt; omega
      have ha := HF.out j hlt2
      have hb := HF.out (j + 1) h1
      have ha15 := sg_hi (s[j].toNat : Int)
      have hb15 := sg_hi (s[j + 1].toNat : Int)
      have hi0 : (0 : Int) ≤ (j : Int) := by omega
      have hi1 : (j : Int) < (s.size : Int) := by omega
      have hi2 : (0 : Int) ≤ (j : Int) + 1 := by omega
      have hi3 : (j : Int) + 1 < (s.size : Int) := by omega
      have hw1 : IntKind.i64.wrap ((j : Int) + 1) = (j : Int) + 1 := wr64 _ (by omega) (by omega)
      have HX : Hid (((two s[j] s[j + 1]).toNat : Int) = bits BinOp.or IntKind.u8 (IntKind.u8.wrap (sg s[j].toNat * 16)) (sg s[j + 1].toNat)) := or_two _ _ ha hb
      have hlen : (dec (s.data.toList.take j)).length ≤ 140737488351232 := by
        rw [dec_length (j / 2) _ (by simp; have : s.size = s.data.size := rfl; omega)]; omega
      have hl2 : (dec (s.data.toList.take j)).length + 1 ≤ 140737488355328 := by omega
      have HE : Hid (dec (s.data.toList.take (j + 2)) = dec (s.data.toList.take j) ++ [two s[j] s[j + 1]]) := dec_even _ j hje (by simpa using h1)
      go_wp2
      go_region_with (first | (go_at_call 29; refine (signValue_any _ _ (by assumption)).mono ?_; rintro e w' ⟨rfl, rfl⟩) | (go_at_call 26; refine (write_byte w.heap.size w.heap.size _ _ _ (by exact hib) (two s[j] s[j + 1]) HX.out hl2 (by exact hsz)).mono ?_; rintro e w2 ⟨rfl, hib2, hbl2⟩))
      all_goals go_wp2
      all_goals
        go_roundw
        case rel => exact ⟨j + 2, by omega, by omega, by go_num, by rw [HE.out]; exact hib2, hbl.drew.trans hbl2⟩
        case measure => simp [intOf]; omega
    · have hje2 : j = s.size := by omega
      have HE : Hid (s.data.toList.take j = s.data.toList) := by
        show s.data.toList.take j = s.data.toList
        rw [List.take_of_length_le (by simp; have : s.size = s.data.size := rfl; omega)]
      clear hje2
      go_wp2_with (go_at_call 27; refine (Tryd.Builder_String_any w.heap.size w.heap.size _ _ (by exact hib) (by exact hsz)).mono ?_; rintro e w2 ⟨rfl, hbl2⟩)
      go_ret3
      refine ⟨ret3 ?_ rfl rfl, hbl.trans hbl2⟩
      rw [HE.out]

end Go.Proofs.YtfgjlfdiljlfnaaDoor
