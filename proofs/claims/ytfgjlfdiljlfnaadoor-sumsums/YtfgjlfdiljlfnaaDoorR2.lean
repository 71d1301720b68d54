/-
  The document's bytesOf and padded.
-/
import Derived.Test.YtfgjlfdiljlfnaaDoorR1
import Derived.Test.YtfgjlfdiljlfnaaDoorHex
namespace Go.Proofs.YtfgjlfdiljlfnaaDoor
open Go.RowKit
set_option linter.unusedVariables false

theorem conv_one (w : World) (c : Int) : (convert 51 9 (.slice (some ⟨w.heap.size, 0, none⟩) 1 1)).run Tryd.prog (w.alloc (.cells #[.int .u8 c] 5)) = .ok (.string ⟨#[UInt8.ofNat c.toNat]⟩) (w.alloc (.cells #[.int .u8 c] 5)) := by
  rw [run_convert_bytes_string _ 51 9 5 _ 1 1 Tryd.underlying51 Tryd.underlying5 Tryd.underlying9]
  rw [run_bytesToString _ _ 1 1 [c] (run_loadCells_list _ _ [.int .u8 c] (by
    intro j v hj
    match j, hj with
    | 0, hj => simp at hj; subst hj; simp [Addr.add]))]
  rfl
/-- the first k of n bytes of a number. -/
def bytesK (x : Int) (n : Nat) : Nat → List UInt8
  | 0 => []
  | k + 1 => bytesK x n k ++ [UInt8.ofNat (x / 256 ^ (n - 1 - k) % 256).toNat]
theorem bytesK_len (x : Int) (n : Nat) : ∀ k, (bytesK x n k).length = k
  | 0 => rfl
  | k + 1 => by simp [bytesK, bytesK_len x n k]

set_option maxHeartbeats 1000000 in
theorem bytesOf_any (x : Int) (n : Nat) (w : World) (h0 : 0 ≤ x) (h1 : x < 9223372036854775808) (hn : n ≤ 8) :
    Calls Tryd.prog 24 #[.int .i64 x, .int .i64 n] w fun e w' => e = .returned (.string ⟨(bytesK x n n).toArray⟩) ∧ Below w.heap.size w w' := by
  go_enter Tryd.func24, Tryd.ntmps24
  go_wp2
  go_loopw [5, 6] (fun o i wr => ∃ k : Nat, ∃ m : Int, k ≤ n ∧ m + k + 1 = n ∧ i = .int .i64 m ∧ o = .string ⟨(bytesK x n k).toArray⟩ ∧ Below w.heap.size w wr) (fun _ i _ => (intOf i + 1).toNat)
  case atStart => exact ⟨0, (n : Int) - 1, by omega, by omega, rfl, rfl, Below.refl _ _⟩
  case round =>
    obtain ⟨k, m, hk, hm, rfl, rfl, hbl⟩ := hrel
    have HM : Hid (m + k + 1 = n) := hm
    obtain ⟨T, hT⟩ : ∃ T, bytesK x n k = T := ⟨_, rfl⟩
    have hTl : T.length ≤ 8 := by rw [← hT, bytesK_len]; omega
    obtain ⟨b, hb⟩ : ∃ b, UInt8.ofNat (x / 2 ^ (8 * m).toNat % 256).toNat = b := ⟨_, rfl⟩
    by_cases hlt : 0 ≤ m
    · have hm7 : m ≤ 7 := by omega
      have HE : Hid (bytesK x n (k + 1) = T ++ [b]) := by
        show bytesK x n (k + 1) = T ++ [b]
        have e1 : (8 * m).toNat = 8 * (n - 1 - k) := by omega
        rw [bytesK, hT, ← hb, e1, Int.pow_mul]
        rfl
      have hcv := conv_one wr (x / 2 ^ (8 * m).toNat % 256)
      rw [hb] at hcv
      have had := fun wx => add_one T b wx (by omega)
      obtain ⟨T1, hT1⟩ : ∃ T1, T ++ [b] = T1 := ⟨_, rfl⟩
      rw [hT1] at had
      have HE1 : Hid (bytesK x n (k + 1) = T1) := by
        show bytesK x n (k + 1) = T1
        rw [HE.out, hT1]
      rw [hT]
      clear hm hb hT hT1
      go_wp2
      go_roundw
      case rel => exact ⟨k + 1, m - 1, by have := HM.out; omega, by have := HM.out; omega, rfl, by rw [HE1.out], hbl.alloc hbl.size _⟩
      case measure => simp [intOf]; omega
    · have hkn : k = n := by omega
      have HE : Hid (T = bytesK x n n) := by show T = bytesK x n n; rw [← hT, hkn]
      rw [hT]
      clear hm hb hT hkn
      go_wp2
      go_ret
      exact ⟨dig_ret HE.out, hbl⟩

/-- how many zeros stand behind the mark. -/
def zN (n : Nat) : Nat := (119 - n % 64) % 64
def padK (d : List UInt8) (j : Nat) : List UInt8 := d ++ [128] ++ List.replicate j 0
theorem padK_len (d : List UInt8) (j : Nat) : (padK d j).length = d.length + 1 + j := by simp [padK]; omega
theorem padK_succ (d : List UInt8) (j : Nat) : padK d j ++ [0] = padK d (j + 1) := by simp [padK, List.replicate_succ']
/-- the text with what comes behind it. -/
def padT (d : List UInt8) : List UInt8 := padK d (zN d.length) ++ bytesK (8 * (d.length : Int)) 8 8
def strLen : Value → Nat
  | .string x => x.size
  | _ => 0
theorem zN_lt (n : Nat) : zN n < 64 := by unfold zN; omega
theorem zN_is (n j : Nat) (h : j ≤ zN n) : (((n + 1 + j : Nat) : Int) % 64 = 56) ↔ j = zN n := by unfold zN at *; omega
theorem add_list (x y : List UInt8) (wx : World) (hx : x.length ≤ 281474976710656) (hy : y.length ≤ 1000) : (Op.stringOp .add ⟨x.toArray⟩ ⟨y.toArray⟩).run Tryd.prog wx = .ok (.string ⟨(x ++ y).toArray⟩) wx := by
  rw [run_string_add_sum wx _ _ (by
    show x.toArray.size + y.toArray.size ≤ _
    simp
    omega), ByteArray.mk_append_mk]

set_option maxHeartbeats 1000000 in
theorem padded_any (d : List UInt8) (w : World) (hd : d.length ≤ 140737488351232) :
    Calls Tryd.prog 21 #[.string ⟨d.toArray⟩] w fun e w' => e = .returned (.string ⟨(padT d).toArray⟩) ∧ Below w.heap.size w w' := by
  have hz := zN_lt d.length
  have had0 := fun wx => add_one d 128 wx (by omega)
  have HP0 : Hid (d ++ [128] = padK d 0) := by show d ++ [128] = padK d 0; simp [padK]
  rw [HP0.out] at had0
  obtain ⟨D0, hD0⟩ : ∃ D0, padK d 0 = D0 := ⟨_, rfl⟩
  rw [hD0] at had0
  have HD0 : Hid (padK d 0 = D0) := hD0
  clear hD0
  go_enter Tryd.func21, Tryd.ntmps21
  go_wp2
  go_loop [3] (fun v => ∃ j : Nat, ∃ T : List UInt8, j ≤ zN d.length ∧ v = .string ⟨T.toArray⟩ ∧ T = padK d j) (fun v => d.length + 1 + zN d.length - strLen v)
  case atStart => exact ⟨0, D0, by omega, rfl, HD0.out.symm⟩
  case round =>
    obtain ⟨j, T, hj, rfl, hT⟩ := hrel
    have hTl : T.length = d.length + 1 + j := by rw [hT]; exact padK_len d j
    have hiff := zN_is d.length j hj
    have HT : Hid (T = padK d j) := hT
    have HTL : Hid (T.length = d.length + 1 + j) := hTl
    have hTn : T.length ≤ 140737488351400 := by omega
    by_cases hlt : j = zN d.length
    · have ht : ((T.length : Int) % 64 != 56) = false := by
        have := hiff.2 hlt
        rw [hTl]; simp; omega
      obtain ⟨Y, hY⟩ : ∃ Y, bytesK (8 * (d.length : Int)) 8 8 = Y := ⟨_, rfl⟩
      have hYl : Y.length = 8 := by rw [← hY]; exact bytesK_len _ _ _
      have C24 : Hid (∀ wx, Calls Tryd.prog 24 #[.int .i64 (8 * (d.length : Int)), .int .i64 8] wx fun e w' => e = .returned (.string ⟨Y.toArray⟩) ∧ Below wx.heap.size wx w') := fun wx => by rw [← hY]; exact bytesOf_any (8 * (d.length : Int)) 8 wx (by omega) (by omega) (by omega)
      have had := fun wx => add_list T Y wx (by omega) (by omega)
      have HE : Hid (T ++ Y = padT d) := by
        show T ++ Y = padT d
        rw [padT, hY, hT, hlt]
      clear hT hTl hlt hiff hY hYl
      go_wp2_with (go_at_call 24; refine (C24.out _).mono ?_; rintro e w1 ⟨rfl, hb1⟩)
      go_ret
      exact ⟨dig_ret HE.out, hb1⟩
    · have ht : ((T.length : Int) % 64 != 56) = true := by
        have := fun h => hlt (hiff.1 h)
        rw [hTl]; simp; omega
      have had := fun wx => add_one T 0 wx (by omega)
      obtain ⟨T1, hT1⟩ : ∃ T1, T ++ [0] = T1 := ⟨_, rfl⟩
      rw [hT1] at had
      have HE : Hid (T1 = padK d (j + 1)) := by show T1 = padK d (j + 1); rw [← hT1, hT, padK_succ]
      have hl1 : T1.length = T.length + 1 := by rw [← hT1]; simp
      have HL1 : Hid (T1.length = T.length + 1) := hl1
      have hjz : j + 1 ≤ zN d.length := by omega
      clear hT hTl hlt hiff hT1 hl1
      go_wp2
      go_round
      case rel => exact ⟨j + 1, T1, by omega, rfl, HE.out⟩
      case measure =>
        have e1 := HL1.out
        have e2 := HTL.out
        have e3 : strLen (.string ⟨T1.toArray⟩) = T1.length := by show T1.toArray.size = _; simp
        have e4 : strLen (.string ⟨T.toArray⟩) = T.length := by show T.toArray.size = _; simp
        rw [e3, e4]
        omega
end Go.Proofs.YtfgjlfdiljlfnaaDoor
