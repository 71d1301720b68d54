/-
  The walks of Hex, and of the document's Hex.
-/
import Derived.Test.YtfgjlfdiljlfnaaDoorBts
namespace Go.Proofs.YtfgjlfdiljlfnaaDoor
open Go.RowKit
set_option linter.unusedVariables false
/-- the sign of a number below 16. -/
def hexD (v : Nat) : UInt8 := [48, 49, 50, 51, 52, 53, 54, 55, 56, 57, 97, 98, 99, 100, 101, 102].getD v 0
def hexF : List UInt8 → List UInt8
  | [] => []
  | b :: r => hexD (b.toNat / 16) :: hexD (b.toNat % 16) :: hexF r
theorem hexF_snoc : ∀ (l : List UInt8) (b : UInt8), hexF (l ++ [b]) = hexF l ++ [hexD (b.toNat / 16)] ++ [hexD (b.toNat % 16)]
  | [], b => rfl
  | c :: l, b => by simp [hexF, hexF_snoc l b]
theorem hexF_len : ∀ (l : List UInt8), (hexF l).length = 2 * l.length
  | [] => rfl
  | c :: l => by simp [hexF, hexF_len l]; omega
theorem hexTab : ∀ v < 16, (⟨#[48, 49, 50, 51, 52, 53, 54, 55, 56, 57, 97, 98, 99, 100, 101, 102]⟩ : ByteArray)[v]? = some (hexD v) := by decide +kernel
theorem ixHex (v : Nat) (hv : v < 16) (wx : World) : (Instr.index 9 (.string ⟨#[48, 49, 50, 51, 52, 53, 54, 55, 56, 57, 97, 98, 99, 100, 101, 102]⟩) (.int .u8 (v : Int))).run Tryd.prog wx = .ok (.int .u8 ((hexD v).toNat : Int)) wx := by
  have := hexTab v hv
  simp [Instr.index, asIntOf, run_underlying Tryd.underlying9, this]
set_option maxHeartbeats 1000000 in
theorem hex_any (s : ByteArray) (w : World) (hs : s.size ≤ 70368744175616) :
    Calls Tryd.prog 9 #[.string s] w fun e w' => e = .returned (.string ⟨(hexF s.data.toList).toArray⟩) ∧ Below w.heap.size w w' := by
  go_enter Tryd.func9, Tryd.ntmps9
  go_wp2_with (first | (go_at_call 25; refine (grow_int w.heap.size w.heap.size _ _ (by omega) (Nat.le_refl _) (heap_alloc_new w _) (by simp) (by omega)).mono ?_; rintro e w1 ⟨rfl, hb1, hbl1⟩))
  have hbl2 : Below w.heap.size w w1 := ((Below.refl _ _).alloc (Nat.le_refl _) _).trans hbl1
  have HB : Hid (Below w.heap.size w w1) := hbl2
  have HI : Hid (Lib.IsBuilder 53 5 w.heap.size w.heap.size (Lib.byteCells []) w1) := hb1
  clear hbl1 hbl2 hb1
  go_loopw [11] (fun i wr => ∃ k : Nat, k ≤ s.size ∧ i = .int .i64 k ∧ Lib.IsBuilder 53 5 w.heap.size w.heap.size (Lib.byteCells (hexF (s.data.toList.take k))) wr ∧ Below w.heap.size w wr) (fun i _ => s.size - (intOf i).toNat)
  case atStart => exact ⟨0, Nat.zero_le _, rfl, HI.out, HB.out⟩
  case round =>
    obtain ⟨j, hj, rfl, hib, hbl⟩ := hrel
    have hsz := hbl.size
    by_cases hlt : j < s.size
    · have hb := s[j].toNat_lt
      obtain ⟨d1, hd1⟩ : ∃ d1, hexD (s[j].toNat / 16) = d1 := ⟨_, rfl⟩
      obtain ⟨d2, hd2⟩ : ∃ d2, hexD (s[j].toNat % 16) = d2 := ⟨_, rfl⟩
      obtain ⟨T, hT⟩ : ∃ T, hexF (s.data.toList.take j) = T := ⟨_, rfl⟩
      have hx1 : ∀ wx, (Instr.index 9 (.string ⟨#[48, 49, 50, 51, 52, 53, 54, 55, 56, 57, 97, 98, 99, 100, 101, 102]⟩) (.int .u8 ((s[j].toNat : Int) / 16))).run Tryd.prog wx = .ok (.int .u8 (d1.toNat : Int)) wx := fun wx => by rw [← hd1]; exact ixHex (s[j].toNat / 16) (by omega) wx
      have hx2 : ∀ wx, (Instr.index 9 (.string ⟨#[48, 49, 50, 51, 52, 53, 54, 55, 56, 57, 97, 98, 99, 100, 101, 102]⟩) (.int .u8 ((s[j].toNat : Int) % 16))).run Tryd.prog wx = .ok (.int .u8 (d2.toNat : Int)) wx := fun wx => by rw [← hd2]; exact ixHex (s[j].toNat % 16) (by omega) wx
      have HL1 : Hid (T.length + 1 ≤ 140737488355328) := by
        show T.length + 1 ≤ 140737488355328
        rw [← hT, hexF_len]; simp; omega
      have HL2 : Hid ((T ++ [d1]).length + 1 ≤ 140737488355328) := by
        show (T ++ [d1]).length + 1 ≤ 140737488355328
        rw [← hT]; simp [hexF_len]; omega
      have HE : Hid (hexF (s.data.toList.take (j + 1)) = T ++ [d1] ++ [d2]) := by
        show hexF (s.data.toList.take (j + 1)) = _
        rw [← hd1, ← hd2, ← hT, List.take_succ_eq_append_getElem (by simpa using hlt)]
        exact hexF_snoc _ _
      rw [hT] at hib
      clear hd1 hd2 hT
      go_wp2_with fail
      refine (write_byte w.heap.size w.heap.size T (d1.toNat : Int) wr hib d1 rfl HL1.out hsz).mono ?_
      rintro e w2 ⟨rfl, hib2, hbl2⟩
      go_wp2_with fail
      refine (write_byte w.heap.size w.heap.size (T ++ [d1]) (d2.toNat : Int) w2 hib2 d2 rfl HL2.out (Nat.le_trans hsz hbl2.size)).mono ?_
      rintro e w3 ⟨rfl, hib3, hbl3⟩
      go_wp2
      go_roundw
      case rel => exact ⟨j + 1, by omega, by go_num, by rw [HE.out]; exact hib3, (hbl.trans hbl2).trans hbl3⟩
      case measure => simp [intOf]; omega
    · have HE : Hid (s.data.toList.take j = s.data.toList) := by
        show s.data.toList.take j = s.data.toList
        rw [List.take_of_length_le (by simp; have : s.size = s.data.size := rfl; omega)]
      go_wp2_with (go_at_call 27; refine (Tryd.Builder_String_any w.heap.size w.heap.size _ _ (by exact hib) (by exact hsz)).mono ?_; rintro e w2 ⟨rfl, hbl2⟩)
      go_ret
      refine ⟨?_, hbl.trans hbl2⟩
      rw [HE.out]; rfl

theorem dig_ret {a b : List UInt8} (h : a = b) : Ending.returned (.string ⟨a.toArray⟩) = .returned (.string ⟨b.toArray⟩) := by rw [h]
theorem exHex : ∀ v < 16, (⟨#[48, 49, 50, 51, 52, 53, 54, 55, 56, 57, 97, 98, 99, 100, 101, 102]⟩ : ByteArray).extract v (v + 1) = ⟨#[hexD v]⟩ := by decide +kernel
theorem slHex (v : Nat) (hv : v < 16) (wx : World) : (Instr.slice 9 (.string ⟨#[48, 49, 50, 51, 52, 53, 54, 55, 56, 57, 97, 98, 99, 100, 101, 102]⟩) (some (.int .i64 (v : Int))) (some (.int .i64 ((v : Int) + 1))) none).run Tryd.prog wx = .ok (.string ⟨#[hexD v]⟩) wx := by
  rw [run_slice_string_if (h := Tryd.underlying9), if_pos ⟨by omega, by show ((v : Int) + 1) ≤ 16; omega⟩, if_pos ⟨by omega, by omega⟩]
  rw [show (v : Int).toNat = v from by omega, show ((v : Int) + 1).toNat = v + 1 from by omega, exHex v hv]
theorem add_one (x : List UInt8) (b : UInt8) (wx : World) (h : x.length ≤ 9223372036854775806) : (Op.stringOp .add ⟨x.toArray⟩ ⟨#[b]⟩).run Tryd.prog wx = .ok (.string ⟨(x ++ [b]).toArray⟩) wx := by
  rw [run_string_add_sum wx _ _ (by
    show x.toArray.size + 1 ≤ _
    simp
    omega)]
  rw [show (⟨#[b]⟩ : ByteArray) = ⟨[b].toArray⟩ from rfl, ByteArray.mk_append_mk]
set_option maxHeartbeats 1000000 in
theorem refHex_any (s : ByteArray) (w : World) (hs : s.size ≤ 140737488351232) :
    Calls Tryd.prog 12 #[.string s] w fun e w' => e = .returned (.string ⟨(hexF s.data.toList).toArray⟩) ∧ Below w.heap.size w w' := by
  go_enter Tryd.func12, Tryd.ntmps12
  go_wp2
  go_loopw [3, 4] (fun o i wr => ∃ k : Nat, k ≤ s.size ∧ i = .int .i64 k ∧ o = .string ⟨(hexF (s.data.toList.take k)).toArray⟩ ∧ Below w.heap.size w wr) (fun _ i _ => s.size - (intOf i).toNat)
  case atStart => exact ⟨0, Nat.zero_le _, rfl, rfl, Below.refl _ _⟩
  case round =>
    obtain ⟨j, hj, rfl, rfl, hbl⟩ := hrel
    by_cases hlt : j < s.size
    · have hb := s[j].toNat_lt
      obtain ⟨T, hT⟩ : ∃ T, hexF (s.data.toList.take j) = T := ⟨_, rfl⟩
      obtain ⟨d1, hd1⟩ : ∃ d1, hexD (s[j].toNat / 16) = d1 := ⟨_, rfl⟩
      obtain ⟨d2, hd2⟩ : ∃ d2, hexD (s[j].toNat % 16) = d2 := ⟨_, rfl⟩
      obtain ⟨v, hv⟩ : ∃ v, s[j].toNat = v := ⟨_, rfl⟩
      have HE : Hid (hexF (s.data.toList.take (j + 1)) = T ++ [d1] ++ [d2]) := by
        show hexF (s.data.toList.take (j + 1)) = _
        rw [← hd1, ← hd2, ← hT, List.take_succ_eq_append_getElem (by simpa using hlt)]
        exact hexF_snoc _ _
      have hTl : T.length ≤ 281474976702464 := by rw [← hT, hexF_len]; simp; omega
      have sl1 : ∀ wx, (Instr.slice 9 (.string ⟨#[48, 49, 50, 51, 52, 53, 54, 55, 56, 57, 97, 98, 99, 100, 101, 102]⟩) (some (.int .i64 ((v : Int) / 16))) (some (.int .i64 ((v : Int) / 16 + 1))) none).run Tryd.prog wx = .ok (.string ⟨#[d1]⟩) wx := fun wx => by rw [← hd1, hv]; exact slHex (v / 16) (by omega) wx
      have sl2 : ∀ wx, (Instr.slice 9 (.string ⟨#[48, 49, 50, 51, 52, 53, 54, 55, 56, 57, 97, 98, 99, 100, 101, 102]⟩) (some (.int .i64 ((v : Int) % 16))) (some (.int .i64 ((v : Int) % 16 + 1))) none).run Tryd.prog wx = .ok (.string ⟨#[d2]⟩) wx := fun wx => by rw [← hd2, hv]; exact slHex (v % 16) (by omega) wx
      have ad1 : ∀ wx, (Op.stringOp .add ⟨T.toArray⟩ ⟨#[d1]⟩).run Tryd.prog wx = .ok (.string ⟨(T ++ [d1]).toArray⟩) wx := fun wx => add_one T d1 wx (by omega)
      obtain ⟨T1, hT1⟩ : ∃ T1, T ++ [d1] = T1 := ⟨_, rfl⟩
      have hT1l : T1.length ≤ 281474976702465 := by rw [← hT1]; simp; omega
      rw [hT1] at ad1
      obtain ⟨T2, hT2⟩ : ∃ T2, T1 ++ [d2] = T2 := ⟨_, rfl⟩
      have ad2 : ∀ wx, (Op.stringOp .add ⟨T1.toArray⟩ ⟨#[d2]⟩).run Tryd.prog wx = .ok (.string ⟨T2.toArray⟩) wx := fun wx => by rw [← hT2]; exact add_one T1 d2 wx (by omega)
      have HE2 : Hid (hexF (s.data.toList.take (j + 1)) = T2) := by
        show hexF (s.data.toList.take (j + 1)) = T2
        rw [HE.out, hT1, hT2]
      have hv0 : (0 : Int) ≤ (v : Int) := by omega
      have hv1 : (v : Int) ≤ 255 := by omega
      rw [hT]
      clear hT1 hT2 hT hd1 hd2 HE
      go_wp2
      go_region
      all_goals go_wp2
      all_goals
        go_roundw
        case rel => exact ⟨j + 1, by omega, by go_num, by rw [HE2.out], hbl.drew⟩
        case measure => simp [intOf]; omega
    · have HE : Hid (s.data.toList.take j = s.data.toList) := by
        show s.data.toList.take j = s.data.toList
        rw [List.take_of_length_le (by simp; have : s.size = s.data.size := rfl; omega)]
      go_wp2
      go_ret
      refine ⟨dig_ret ?_, hbl⟩
      rw [HE.out]
end Go.Proofs.YtfgjlfdiljlfnaaDoor
