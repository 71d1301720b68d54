/-
  The document's small functions.
-/
import Derived.Test.YtfgjlfdiljlfnaaDoorMth
import Derived.Deep.RegionWith
import Derived.Laws.IdiomStrings
namespace Go.Proofs.YtfgjlfdiljlfnaaDoor
open Go.RowKit
set_option linter.unusedVariables false
def r64 (l : List Int) : Array Value := (l.map (Value.int .i64)).toArray
theorem r64_size (l : List Int) : (r64 l).size = l.length := by simp [r64]
theorem r64_get (l : List Int) (i : Nat) (h : i < l.length) : (r64 l)[i]? = some (.int .i64 (nth l i)) := by
  simp [r64, nth, List.getElem?_eq_getElem h]
theorem cell64 {w : World} {g t : Nat} {l : List Int} (h : w.heap[g]? = some (.cells (r64 l) t (0, 0))) (i : Nat) (hi : i < l.length) : w.cell? ⟨g, i, none⟩ = some (.int .i64 (nth l i)) := by
  rw [cell_of_row _ _ _ _ _ _ h]; exact r64_get l i hi
theorem r64_set (l : List Int) (i : Nat) (x : Int) : (r64 l).setIfInBounds i (.int .i64 x) = r64 (l.set i x) := by
  unfold r64; simp [List.map_set]
theorem set64 {w : World} {g t : Nat} {l : List Int} (h : w.heap[g]? = some (.cells (r64 l) t (0, 0))) (i : Nat) (x : Int) : (w.setCell ⟨g, i, none⟩ (.int .i64 x)).heap[g]? = some (.cells (r64 (l.set i x)) t (0, 0)) := by
  rw [heap_setCell_same w g i (r64 l) t _ h, r64_set]
theorem ret_i64 {a b : Int} (h : a = b) : Ending.returned (.int .i64 a) = .returned (.int .i64 b) := by rw [h]
theorem word_any (n : Int) (w : World) (h0 : -9223372036854775808 ≤ n) (h1 : n < 9223372036854775808) : Calls Tryd.prog 37 #[.int .i64 n] w fun e w' => e = .returned (.int .i64 (n % 4294967296)) ∧ w' = w := by
  have HE : Hid (bits BinOp.and IntKind.i64 n 4294967295 = n % 4294967296) := low32 n h0 h1
  go_enter Tryd.func37, Tryd.ntmps37
  go_wp2
  go_ret
  exact ⟨ret_i64 HE.out, rfl⟩

set_option maxHeartbeats 2000000 in
theorem refRot_any (x n : Int) (w : World) (h0 : 0 ≤ x) (h1 : x < 4294967296) (hn : n = 2 ∨ n = 6 ∨ n = 7 ∨ n = 11 ∨ n = 13 ∨ n = 17 ∨ n = 18 ∨ n = 19 ∨ n = 22 ∨ n = 25) :
    Calls Tryd.prog 36 #[.int .i64 x, .int .i64 n] w fun e w' => e = .returned (.int .i64 (pRot x n.toNat)) ∧ ∃ q, w' = w.drewN q := by
  have HL : Hid (∀ a b wx, 0 ≤ a → a < 4611686018427387904 → 0 ≤ b → b < 4611686018427387904 → Calls Tryd.prog 37 #[.int .i64 (bits BinOp.or IntKind.i64 a b)] wx fun e w' => e = .returned (.int .i64 (bits BinOp.and IntKind.i64 (bits BinOp.or IntKind.i64 a b) 4294967295)) ∧ w' = wx) := fun a b wx ha ha2 hb hb2 => by
    obtain ⟨A, rfl⟩ := Int.eq_ofNat_of_zero_le ha
    obtain ⟨B, rfl⟩ := Int.eq_ofNat_of_zero_le hb
    have hz : A ||| B < 2 ^ 62 := Nat.or_lt_two_pow (by omega) (by omega)
    rw [or64 A B (by omega) (by omega), low32 _ (by omega) (by omega)]
    exact word_any _ wx (by omega) (by omega)
  rcases hn with rfl | rfl | rfl | rfl | rfl | rfl | rfl | rfl | rfl | rfl
  all_goals (go_enter Tryd.func36, Tryd.ntmps36; go_wp2; go_quiet ((go_at_call 37; exact Calls.quiet_of_same (HL.out _ _ _ (by omega) (by omega) (by omega) (by omega)))); go_wp2; go_ret; exact ⟨ret_i64 (rotEq x _ ⟨h0, h1⟩ (by decide) (by decide) _ _ rfl rfl), _, rfl⟩)

def ks1 : List Int := [1116352408, 1899447441, 3049323471, 3921009573, 961987163, 1508970993, 2453635748, 2870763221, 3624381080, 310598401, 607225278, 1426881987, 1925078388, 2162078206, 2614888103, 3248222580, 3835390401, 4022224774, 264347078, 604807628, 770255983, 1249150122, 1555081692, 1996064986, 2554220882, 2821834349, 2952996808, 3210313671, 3336571891, 3584528711, 113926993, 338241895, 666307205, 773529912, 1294757372, 1396182291, 1695183700, 1986661051, 2177026350, 2456956037, 2730485921, 2820302411, 3259730800, 3345764771, 3516065817, 3600352804, 4094571909, 275423344, 430227734, 506948616, 659060556, 883997877, 958139571, 1322822218, 1537002063, 1747873779, 1955562222, 2024104815, 2227730452, 2361852424, 2428436474, 2756734187, 3204031479, 3329325298]
set_option maxHeartbeats 1000000 in
theorem starts_any (w : World) : Calls Tryd.prog 22 #[] w fun e w' => e = .returned (.slice (some ⟨w.heap.size, 0, none⟩) 8 8) ∧ w' = w.alloc (.cells (r64 hs0) 3) := by
  go_enter Tryd.func22, Tryd.ntmps22
  go_wp2
  go_ret
  exact ⟨rfl, rfl⟩
set_option maxHeartbeats 1000000 in
set_option maxRecDepth 100000 in
theorem constants_any (w : World) : Calls Tryd.prog 35 #[] w fun e w' => e = .returned (.slice (some ⟨w.heap.size, 0, none⟩) 64 64) ∧ w' = w.alloc (.cells (r64 ks1) 3) := by
  go_enter Tryd.func35, Tryd.ntmps35
  go_wp2
  go_ret
  exact ⟨rfl, rfl⟩
end Go.Proofs.YtfgjlfdiljlfnaaDoor
