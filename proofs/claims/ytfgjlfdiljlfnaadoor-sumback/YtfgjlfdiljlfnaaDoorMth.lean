/-
  The words of the two texts are the same.
-/
import Derived.Test.YtfgjlfdiljlfnaaDoorArr
import Derived.OpenShut
namespace Go.Proofs.YtfgjlfdiljlfnaaDoor
open Go.RowKit
set_option linter.unusedVariables false
theorem w62 (n : Int) (h0 : 0 ≤ n) (h1 : n < 2 ^ 62) : IntKind.i64.wrap n = n := by rw [IntKind.wrap_i64]; omega
theorem or64 (a b : Nat) (ha : a < 2 ^ 62) (hb : b < 2 ^ 62) : bits BinOp.or IntKind.i64 (a : Int) (b : Int) = ((a ||| b : Nat) : Int) := (bits_nat .i64 62 (by decide) w62 a b ha hb).2
theorem and64 (a b : Nat) (ha : a < 2 ^ 62) (hb : b < 2 ^ 62) : bits BinOp.and IntKind.i64 (a : Int) (b : Int) = ((a &&& b : Nat) : Int) := (bits_nat .i64 62 (by decide) w62 a b ha hb).1
theorem xor64 (a b : Nat) (ha : a < 2 ^ 62) (hb : b < 2 ^ 62) : bits BinOp.xor IntKind.i64 (a : Int) (b : Int) = ((a ^^^ b : Nat) : Int) := by
  have hx : a ^^^ b < 2 ^ 62 := Nat.xor_lt_two_pow ha hb
  show IntKind.i64.wrap ((BitVec.ofInt 64 (a : Int) ^^^ BitVec.ofInt 64 (b : Int)).toNat : Int) = _
  rw [BitVec.toNat_xor, ofInt_u64 a (by omega), ofInt_u64 b (by omega)]
  exact w62 _ (by omega) (by omega)
theorem low32 (n : Int) (h0 : -9223372036854775808 ≤ n) (h1 : n < 9223372036854775808) : bits BinOp.and IntKind.i64 n 4294967295 = n % 4294967296 := by
  show IntKind.i64.wrap ((BitVec.ofInt 64 n &&& BitVec.ofInt 64 4294967295).toNat : Int) = _
  have e1 : (BitVec.ofInt 64 n).toNat = (n % 18446744073709551616).toNat := by rw [BitVec.toNat_ofInt]; rfl
  have e2 : (BitVec.ofInt 64 4294967295).toNat = 2 ^ 32 - 1 := by decide
  rw [BitVec.toNat_and, e1, e2, Nat.and_two_pow_sub_one_eq_mod, IntKind.wrap_i64]
  omega
theorem x32 (a b : Int) (ha : 0 ≤ a ∧ a < 4294967296) (hb : 0 ≤ b ∧ b < 4294967296) : bits BinOp.xor IntKind.i64 a b = bits BinOp.xor IntKind.u32 a b := by
  obtain ⟨A, rfl⟩ := Int.eq_ofNat_of_zero_le ha.1
  obtain ⟨B, rfl⟩ := Int.eq_ofNat_of_zero_le hb.1
  exact (xor64 A B (by omega) (by omega)).trans (u32_xor_nat A B (by omega) (by omega)).symm
theorem a32 (a b : Int) (ha : 0 ≤ a ∧ a < 4294967296) (hb : 0 ≤ b ∧ b < 4294967296) : bits BinOp.and IntKind.i64 a b = bits BinOp.and IntKind.u32 a b := by
  obtain ⟨A, rfl⟩ := Int.eq_ofNat_of_zero_le ha.1
  obtain ⟨B, rfl⟩ := Int.eq_ofNat_of_zero_le hb.1
  exact (and64 A B (by omega) (by omega)).trans (u32_and_nat A B (by omega) (by omega)).symm
theorem rotN (x n : Nat) (hx : x < 4294967296) (hn : n ≤ 32) : ((x / 2 ^ n) ||| (x * 2 ^ (32 - n))) % 4294967296 = (x * 2 ^ (32 - n)) % 4294967296 ||| (x / 2 ^ n) := by
  have e : (4294967296 : Nat) = 2 ^ 32 := by decide
  have h1 : x / 2 ^ n < 4294967296 := Nat.lt_of_le_of_lt (Nat.div_le_self _ _) hx
  rw [e, Nat.or_mod_two_pow, Nat.or_comm, Nat.mod_eq_of_lt (a := x / 2 ^ n) (by omega)]
theorem rotEq (x : Int) (n : Nat) (hx : 0 ≤ x ∧ x < 4294967296) (hn : 2 ≤ n) (hn2 : n ≤ 31) (a b : Int) (ha : a = x / 2 ^ n) (hb : b = x * 2 ^ (32 - n)) : bits BinOp.and IntKind.i64 (bits BinOp.or IntKind.i64 a b) 4294967295 = pRot x n := by
  obtain ⟨X, rfl⟩ := Int.eq_ofNat_of_zero_le hx.1
  have hX : X < 4294967296 := by omega
  have h1 : X / 2 ^ n < 4294967296 := Nat.lt_of_le_of_lt (Nat.div_le_self _ _) hX
  have hp : 2 ^ (32 - n) ≤ 2 ^ 30 := Nat.pow_le_pow_right (by omega) (by omega)
  have h2 : X * 2 ^ (32 - n) < 2 ^ 62 := by
    have := Nat.mul_le_mul (Nat.le_of_lt_succ (Nat.lt_succ_of_lt hX)) hp
    have h3 : X * 2 ^ (32 - n) ≤ X * 2 ^ 30 := Nat.mul_le_mul_left _ hp
    have h4 : X * 2 ^ 30 < 4294967296 * 2 ^ 30 := (Nat.mul_lt_mul_right (by decide)).2 hX
    omega
  have e1 : ((X : Int) / 2 ^ n) = ((X / 2 ^ n : Nat) : Int) := by simp
  have e2 : ((X : Int) * 2 ^ (32 - n)) = ((X * 2 ^ (32 - n) : Nat) : Int) := by simp
  have e3 : ((X : Int) * 2 ^ (32 - n) % 4294967296) = ((X * 2 ^ (32 - n) % 4294967296 : Nat) : Int) := by rw [e2]; rfl
  have h5 : (X / 2 ^ n) ||| (X * 2 ^ (32 - n)) < 2 ^ 62 := Nat.or_lt_two_pow (by omega) h2
  rw [ha, hb, e1, e2, or64 _ _ (by omega) h2, low32 _ (by omega) (by omega)]
  unfold pRot
  rw [e3, e1, u32_or_nat _ _ (Nat.mod_lt _ (by decide)) h1]
  have := rotN X n hX (by omega)
  omega
theorem not32 (e : Int) (he : 0 ≤ e ∧ e < 4294967296) : bits BinOp.xor IntKind.u32 (if IntKind.u32.signed = true then -1 else IntKind.u32.max) e = 4294967295 - e := by
  obtain ⟨E, rfl⟩ := Int.eq_ofNat_of_zero_le he.1
  have h1 : (if IntKind.u32.signed = true then -1 else IntKind.u32.max) = ((4294967295 : Nat) : Int) := by decide
  rw [h1, u32_xor_nat _ _ (by decide) (by omega)]
  have h2 : (4294967295 : Nat) ^^^ E = 4294967295 - E := by
    have h3 := congrArg BitVec.toNat (BitVec.allOnes_xor (x := BitVec.ofNat 32 E))
    rw [BitVec.toNat_xor, BitVec.toNat_not, BitVec.toNat_allOnes, BitVec.toNat_ofNat, Nat.mod_eq_of_lt (by omega)] at h3
    exact h3
  rw [h2]; omega
theorem bok (op : BinOp) (a b : Int) : 0 ≤ bits op IntKind.u32 a b ∧ bits op IntKind.u32 a b < 4294967296 := by
  have := bounds_u32 (wf_bits op .u32 a b)
  omega
theorem rok (x : Int) (n : Nat) : 0 ≤ pRot x n ∧ pRot x n < 4294967296 := bok _ _ _
/-- four bytes, the highest one first. -/
theorem wordN (a b c d : Nat) (ha : a < 256) (hb : b < 256) (hc : c < 256) (hd : d < 256) : bits BinOp.or IntKind.u32 (bits BinOp.or IntKind.u32 (bits BinOp.or IntKind.u32 ((a : Int) * 16777216) ((b : Int) * 65536)) ((c : Int) * 256)) (d : Int) = ((((a : Int) * 256 + b) * 256 + c) * 256 + d) := by
  have e1 : (a : Int) * 16777216 = ((a * 16777216 : Nat) : Int) := by omega
  have e2 : (b : Int) * 65536 = ((b * 65536 : Nat) : Int) := by omega
  have e3 : (c : Int) * 256 = ((c * 256 : Nat) : Int) := by omega
  have j1 : (a * 16777216) ||| (b * 65536) = a * 16777216 + b * 65536 := nat_join 24 _ _ (by omega) (by omega)
  have j2 : (a * 16777216 + b * 65536) ||| (c * 256) = a * 16777216 + b * 65536 + c * 256 := nat_join 16 _ _ (by omega) (by omega)
  have j3 : (a * 16777216 + b * 65536 + c * 256) ||| d = a * 16777216 + b * 65536 + c * 256 + d := nat_join 8 _ _ (by omega) (by omega)
  rw [e1, e2, e3, u32_or_nat _ _ (by omega) (by omega), j1, u32_or_nat _ _ (by omega) (by omega), j2, u32_or_nat _ _ (by omega) (by omega), j3]
  omega
end Go.Proofs.YtfgjlfdiljlfnaaDoor
