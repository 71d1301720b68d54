/-
  The walk of Bytes.
-/
import Derived.Test.YtfgjlfdiljlfnaaDoorSigns
import Derived.Test.YtfgjlfdiljlfnaaDoorP4
import Derived.Deep.RegionWith
namespace Go.Proofs.YtfgjlfdiljlfnaaDoor
open Go.RowKit
attribute [local go_sem ↓] Go.wp_at_zero Go.wp_at_succ

theorem ret3 {a a' : List UInt8} {b b' c c' : Int} (h1 : a = a') (h2 : b = b') (h3 : c = c') : Ending.returned (.tuple #[.string ⟨a.toArray⟩, .int .i64 b, .int .i64 c]) = .returned (.tuple #[.string ⟨a'.toArray⟩, .int .i64 b', .int .i64 c']) := by rw [h1, h2, h3]
theorem grow_int (B b : Nat) (n : Int) (w : World) (h0 : 0 ≤ n) (hB : B ≤ b) (hbk : w.heap[b]? = some (.cells #[.pointer none, .slice none 0 0] 53 (0, 0))) (hBw : B ≤ w.heap.size) (hn : n ≤ 281474976710656) :
    Calls Tryd.prog 25 #[.pointer (some ⟨b, 0, none⟩), .int .i64 n] w fun e w' => e = .returned (.tuple #[]) ∧ (Lib.IsBuilder 53 5 B b (Lib.byteCells []) w' ∧ Below B w w') := by
  obtain ⟨m, rfl⟩ := Int.eq_ofNat_of_zero_le h0
  refine (Tryd.Builder_Grow_fresh B b m w hB hbk hBw (by omega)).mono ?_
  rintro e w' ⟨rfl, h1, h2⟩
  exact ⟨rfl, Or.inr h1, h2⟩
theorem write_byte (B b : Nat) (l : List UInt8) (c : Int) (w : World) (h : Lib.IsBuilder 53 5 B b (Lib.byteCells l) w) (x : UInt8) (hx : (x.toNat : Int) = c) (hlen : l.length + 1 ≤ 140737488355328) (hBw : B ≤ w.heap.size) :
    Calls Tryd.prog 26 #[.pointer (some ⟨b, 0, none⟩), .int .u8 c] w fun e w' => e = .returned .nilIface ∧ (Lib.IsBuilder 53 5 B b (Lib.byteCells (l ++ [x])) w' ∧ Below B w w') := by
  refine (Tryd.Builder_WriteByte B b (Lib.byteCells l) c w h (by simpa [Lib.byteCells] using hlen) hBw).mono ?_
  rintro e w' ⟨rfl, h1, h2⟩
  refine ⟨rfl, Or.inr ?_, h2⟩
  rw [← hx] at h1
  simpa [Lib.byteCells] using h1
theorem or_tab : ∀ a < 16, ∀ b < 16, bits BinOp.or IntKind.u8 (IntKind.u8.wrap (((a : Nat) : Int) * 16)) ((b : Nat) : Int) = ((a * 16 + b : Nat) : Int) := by decide +kernel
theorem or_two (a b : UInt8) (ha : 0 ≤ sg a.toNat) (hb : 0 ≤ sg b.toNat) : ((two a b).toNat : Int) = bits BinOp.or IntKind.u8 (IntKind.u8.wrap (sg a.toNat * 16)) (sg b.toNat) := by
  rw [two_toNat a b ((okS_iff a).2 ha) ((okS_iff b).2 hb)]
  have h1 := sg_hi a.toNat
  have h2 := sg_hi b.toNat
  obtain ⟨x, hx⟩ := Int.eq_ofNat_of_zero_le ha
  obtain ⟨y, hy⟩ := Int.eq_ofNat_of_zero_le hb
  rw [hx, hy]
  have := or_tab x (by omega) y (by omega)
  rw [this]
  omega

set_option maxHeartbeats 1000000 in
theorem bts_good (s : ByteArray) (w : World) (hs : s.size ≤ 140737488351232) (hf : ¬ fw s.data.toList < s.data.toList.length) (hev : s.size % 2 = 0) :
    Calls Tryd.prog 10 #[.string s] w fun e w' => e = .returned (.tuple #[.string ⟨(dec s.data.toList).toArray⟩, .int .i64 0, .int .i64 0]) ∧ Below w.heap.size w w' := by
  have HF : Hid (∀ j, (hz : j < s.size) → 0 ≤ sg (s[j].toNat : Int)) := fun j hz => (okS_iff _).1 (okS_of_fw _ hf j (by simpa using hz))
  have hf2 : ¬ fw s.data.toList < s.size := by simpa using hf
  clear hf
  have ho : ((s.size : Int) % 2 == 1) = false := by simp; omega
  have hm : s.size ≤ maxLen := by unfold maxLen; omega
  go_enter Tryd.func10, Tryd.ntmps10
  go_wp2_with (first | (go_at_call 28; refine (fw_any s _ hm).mono ?_; rintro e w0 ⟨rfl, h0⟩; subst w0) | (go_at_call 25; refine (grow_int w.heap.size w.heap.size _ _ (by omega) (Nat.le_refl _) (heap_alloc_new w _) (by simp) (by omega)).mono ?_; rintro e w1 ⟨rfl, hb1, hbl1⟩))
  have hbl2 : Below w.heap.size w w1 := ((Below.refl _ _).alloc (Nat.le_refl _) _).trans hbl1
  have HB : Hid (Below w.heap.size w w1) := hbl2
  have HI : Hid (Lib.IsBuilder 53 5 w.heap.size w.heap.size (Lib.byteCells []) w1) := hb1
  clear hbl1 hbl2 hb1
  go_loopw [7] (fun i wr => ∃ k : Nat, k ≤ s.size ∧ k % 2 = 0 ∧ i = .int .i64 k ∧ Lib.IsBuilder 53 5 w.heap.size w.heap.size (Lib.byteCells (dec (s.data.toList.take k))) wr ∧ Below w.heap.size w wr) (fun i _ => s.size - (intOf i).toNat)
  case atStart => exact ⟨0, Nat.zero_le _, rfl, rfl, HI.out, HB.out⟩
  case round =>
    obtain ⟨j, hj, hje, rfl, hib, hbl⟩ := hrel
    have hsz := hbl.size
    by_cases hlt2 : j < s.size
    · have h1 : j + 1 < s.size := by omega
      have ha256 : (s[j].toNat : Int) ≤ 255 := by have := s[j].toNat_lt; omega
      have hb256 : (s[j + 1].toNat : Int) ≤ 255 := by have := s[j + 1].toNat_lt; omega
      have ha := HF.out j hlt2
      have hb := HF.out (j + 1) h1
      have ha15 := sg_hi (s[j].toNat : Int)
      have hb15 := sg_hi (s[j + 1].toNat : Int)
      have hi0 : (0 : Int) ≤ (j : Int) := by omega
      have hi1 : (j : Int) < (s.size : Int) := by omega
      have hi2 : (0 : Int) ≤ (j : Int) + 1 := by omega
      have hi3 : (j : Int) + 1 < (s.size : Int) := by omega
      have hw1 : IntKind.i64.wrap ((j : Int) + 1) = (j : Int) + 1 := wr64 _ (by omega) (by omega)
      have HX : Hid (((two s[j] s[j + 1]).toNat : Int) = bits BinOp.or IntKind.u8 (IntKind.u8.wrap (sg s[j].toNat * 16)) (sg s[j + 1].toNat)) := or_two _ _ ha hb
      have hlen : (dec (s.data.toList.take j)).length ≤ 70368744177664 := by
        rw [dec_length (j / 2) _ (by simp; have : s.size = s.data.size := rfl; omega)]; omega
      have hl2 : (dec (s.data.toList.take j)).length + 1 ≤ 140737488355328 := by omega
      have HE : Hid (dec (s.data.toList.take (j + 2)) = dec (s.data.toList.take j) ++ [two s[j] s[j + 1]]) := dec_even _ j hje (by simpa using h1)
      go_wp2
      go_region_with (first | (go_at_call 29; refine (signValue_any _ _ (by assumption)).mono ?_; rintro e w' ⟨rfl, rfl⟩) | (go_at_call 26; refine (write_byte w.heap.size w.heap.size _ _ _ (by exact hib) (two s[j] s[j + 1]) HX.out hl2 (by exact hsz)).mono ?_; rintro e w2 ⟨rfl, hib2, hbl2⟩))
      all_goals go_wp2
      all_goals
        go_roundw
        case rel => exact ⟨j + 2, by omega, by omega, by go_num, by rw [HE.out]; exact hib2, hbl.drew.trans hbl2⟩
        case measure => simp [intOf]; omega
    · have hje2 : j = s.size := by omega
      have HE : Hid (s.data.toList.take j = s.data.toList) := by
        show s.data.toList.take j = s.data.toList
        rw [List.take_of_length_le (by simp; have : s.size = s.data.size := rfl; omega)]
      clear hje2
      go_wp2_with (go_at_call 27; refine (Tryd.Builder_String_any w.heap.size w.heap.size _ _ (by exact hib) (by exact hsz)).mono ?_; rintro e w2 ⟨rfl, hbl2⟩)
      go_ret3
      refine ⟨ret3 ?_ rfl rfl, hbl.trans hbl2⟩
      rw [HE.out]

set_option maxHeartbeats 1000000 in
theorem bts_bad (s : ByteArray) (w : World) (hs : s.size ≤ 140737488351232) (hf : fw s.data.toList < s.data.toList.length) :
    Calls Tryd.prog 10 #[.string s] w fun e w' => e = .returned (.tuple #[.string ⟨([] : List UInt8).toArray⟩, .int .i64 2, .int .i64 (fw s.data.toList)]) ∧ w' = w := by
  have hf2 : fw s.data.toList < s.size := by simpa using hf
  clear hf
  have hm : s.size ≤ maxLen := by unfold maxLen; omega
  go_enter Tryd.func10, Tryd.ntmps10
  go_wp2_with (first | (go_at_call 28; refine (fw_any s _ hm).mono ?_; rintro e w0 ⟨rfl, h0⟩; subst w0))
  go_ret3
  exact ⟨rfl, rfl⟩

set_option maxHeartbeats 1000000 in
theorem bts_odd (s : ByteArray) (w : World) (hs : s.size ≤ 140737488351232) (hf : ¬ fw s.data.toList < s.data.toList.length) (hod : s.size % 2 = 1) :
    Calls Tryd.prog 10 #[.string s] w fun e w' => e = .returned (.tuple #[.string ⟨([] : List UInt8).toArray⟩, .int .i64 2, .int .i64 (s.data.toList.length : Int)]) ∧ w' = w := by
  have hf2 : ¬ fw s.data.toList < s.size := by simpa using hf
  clear hf
  have ho : ((s.size : Int) % 2 == 1) = true := by simp; omega
  have hm : s.size ≤ maxLen := by unfold maxLen; omega
  go_enter Tryd.func10, Tryd.ntmps10
  go_wp2_with (first | (go_at_call 28; refine (fw_any s _ hm).mono ?_; rintro e w0 ⟨rfl, h0⟩; subst w0))
  go_ret3
  exact ⟨ret3 rfl rfl (by simp), rfl⟩

theorem bts_any (s : ByteArray) (w : World) (hs : s.size ≤ 140737488351232) :
    Calls Tryd.prog 10 #[.string s] w fun e w' => e = .returned (.tuple #[.string ⟨(bOut s.data.toList).toArray⟩, .int .i64 (bErr s.data.toList), .int .i64 (bAt s.data.toList)]) ∧ Below w.heap.size w w' := by
  have hsz : s.data.toList.length = s.size := by simp
  by_cases hf : fw s.data.toList < s.data.toList.length
  · refine (bts_bad s w hs hf).mono ?_
    rintro e w' ⟨rfl, rfl⟩
    exact ⟨ret3 (by unfold bOut; rw [if_pos hf]) (by unfold bErr; rw [if_pos hf]) (by unfold bAt; rw [if_pos hf]), Below.refl _ _⟩
  · by_cases ho : s.size % 2 = 1
    · refine (bts_odd s w hs hf ho).mono ?_
      rintro e w' ⟨rfl, rfl⟩
      exact ⟨ret3 (by unfold bOut; rw [if_neg hf, if_pos (by omega)]) (by unfold bErr; rw [if_neg hf, if_pos (by omega)]) (by unfold bAt; rw [if_neg hf, if_pos (by omega)]), Below.refl _ _⟩
    · refine (bts_good s w hs hf (by omega)).mono ?_
      rintro e w' ⟨rfl, hb⟩
      exact ⟨ret3 (by unfold bOut; rw [if_neg hf, if_neg (by omega)]) (by unfold bErr; rw [if_neg hf, if_neg (by omega)]) (by unfold bAt; rw [if_neg hf, if_neg (by omega)]), hb⟩
end Go.Proofs.YtfgjlfdiljlfnaaDoor
