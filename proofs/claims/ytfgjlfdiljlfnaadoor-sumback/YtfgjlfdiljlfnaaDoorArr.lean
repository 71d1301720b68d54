/-
  Rows of words and of bytes; rotations; sums of states.
-/
import Derived.Test.YtfgjlfdiljlfnaaDoorRows
import Derived.WalkKit
import Derived.WalkSpells
import Derived.WalkLawsBesides
import Derived.Deep.QuietTactic
import Derived.BigQuiet
import Derived.BigRegion
namespace Go.Proofs.YtfgjlfdiljlfnaaDoor
open Go.RowKit
set_option linter.unusedVariables false

/-- the k-th word. -/
def nth (l : List Int) (k : Nat) : Int := l.getD k 0
/-- the k-th byte. -/
def nb (l : List UInt8) (k : Nat) : UInt8 := l.getD k 0
/-- a row of words. -/
def r32 (l : List Int) : Array Value := (l.map (Value.int .u32)).toArray
/-- a row of bytes. -/
def r8 (l : List UInt8) : Array Value := (l.map (fun b => Value.int .u8 (b.toNat : Int))).toArray
theorem r32_size (l : List Int) : (r32 l).size = l.length := by simp [r32]
theorem r8_size (l : List UInt8) : (r8 l).size = l.length := by simp [r8]
theorem r32_get (l : List Int) (i : Nat) (h : i < l.length) : (r32 l)[i]? = some (.int .u32 (nth l i)) := by
  simp [r32, nth, List.getElem?_eq_getElem h]
theorem r8_get (l : List UInt8) (i : Nat) (h : i < l.length) : (r8 l)[i]? = some (.int .u8 ((nb l i).toNat : Int)) := by
  simp [r8, nb, List.getElem?_eq_getElem h]
theorem r32_set (l : List Int) (i : Nat) (x : Int) : (r32 l).setIfInBounds i (.int .u32 x) = r32 (l.set i x) := by
  unfold r32; simp [List.map_set]
theorem r8_set (l : List UInt8) (i : Nat) (x : UInt8) : (r8 l).setIfInBounds i (.int .u8 (x.toNat : Int)) = r8 (l.set i x) := by
  unfold r8; simp [List.map_set]
theorem r32_one (l : List Int) : (r32 l).all (·.oneCell') = true := by
  simp [r32, Value.oneCell']
theorem r8_one (l : List UInt8) : (r8 l).all (·.oneCell') = true := by
  simp [r8, Value.oneCell']
theorem cell32 {w : World} {g t : Nat} {l : List Int} (h : w.heap[g]? = some (.cells (r32 l) t (0, 0))) (i : Nat) (hi : i < l.length) : w.cell? ⟨g, i, none⟩ = some (.int .u32 (nth l i)) := by
  rw [cell_of_row _ _ _ _ _ _ h]; exact r32_get l i hi
theorem cell8 {w : World} {g t : Nat} {l : List UInt8} (h : w.heap[g]? = some (.cells (r8 l) t (0, 0))) (i : Nat) (hi : i < l.length) : w.cell? ⟨g, i, none⟩ = some (.int .u8 ((nb l i).toNat : Int)) := by
  rw [cell_of_row _ _ _ _ _ _ h]; exact r8_get l i hi
theorem set32 {w : World} {g t : Nat} {l : List Int} (h : w.heap[g]? = some (.cells (r32 l) t (0, 0))) (i : Nat) (x : Int) : (w.setCell ⟨g, i, none⟩ (.int .u32 x)).heap[g]? = some (.cells (r32 (l.set i x)) t (0, 0)) := by
  rw [heap_setCell_same w g i (r32 l) t _ h, r32_set]
theorem set8 {w : World} {g t : Nat} {l : List UInt8} (h : w.heap[g]? = some (.cells (r8 l) t (0, 0))) (i : Nat) (x : UInt8) : (w.setCell ⟨g, i, none⟩ (.int .u8 (x.toNat : Int))).heap[g]? = some (.cells (r8 (l.set i x)) t (0, 0)) := by
  rw [heap_setCell_same w g i (r8 l) t _ h, r8_set]
theorem setOther {w : World} {g : Nat} {o : Option Obj} (h : w.heap[g]? = o) (a : Addr) (v : Value) (hn : g ≠ a.block) : (w.setCell a v).heap[g]? = o := by
  rw [heap_setCell_other w a g v hn]; exact h
theorem rowSame {w : World} {g t : Nat} {c : Array Value} (h : w.heap[g]? = some (.cells c t (0, 0))) (c' : Array Value) : (w.setRow g c').heap[g]? = some (.cells c' t (0, 0)) := by
  simp only [World.setRow]
  rw [Array.getElem?_modify, if_pos rfl, h]
  rfl
theorem rowOther {w : World} {g k : Nat} {o : Option Obj} (h : w.heap[k]? = o) (c' : Array Value) (hn : g ≠ k) : (w.setRow g c').heap[k]? = o := by
  simp only [World.setRow]
  rw [Array.getElem?_modify, if_neg hn]
  exact h
theorem belowRow {B g : Nat} {a w : World} (h : Below B a w) (hg : B ≤ g) (c : Array Value) : Below B a (w.setRow g c) :=
  ⟨h.os, h.tape, h.output, by have := h.size; simp; omega, fun k hk => by rw [rowOther rfl c (by omega)]; exact h.block k hk⟩

/-- a word turned. -/
def pRot (x : Int) (n : Nat) : Int := bits BinOp.or IntKind.u32 (x * 2 ^ (32 - n) % 4294967296) (x / 2 ^ n)

theorem i30 : (Tryd.prog.info? 30).map (·.size) = some 8 := by kernel_rfl
theorem i40 : (Tryd.prog.info? 40).map (·.size) = some 64 := by kernel_rfl
theorem i42 : (Tryd.prog.info? 42).map (·.size) = some 16 := by kernel_rfl
theorem i36 : (Tryd.prog.info? 36).map (·.size) = some 64 := by kernel_rfl
def z8 : List Int := List.replicate 8 0
def z16 : List Int := List.replicate 16 0
def z64 : List Int := List.replicate 64 0
def zb64 : List UInt8 := List.replicate 64 0
theorem ret_u32 {a b : Int} (h : a = b) : Ending.returned (.int .u32 a) = .returned (.int .u32 b) := by rw [h]

set_option maxHeartbeats 1000000 in
theorem rot_any (x : Int) (n : Int) (w : World) (h0 : 0 ≤ x) (h1 : x < 4294967296) (hn : n = 2 ∨ n = 6 ∨ n = 7 ∨ n = 11 ∨ n = 13 ∨ n = 17 ∨ n = 18 ∨ n = 19 ∨ n = 22 ∨ n = 25) :
    Calls Tryd.prog 33 #[.int .u32 x, .int .i64 n] w fun e w' => e = .returned (.int .u32 (pRot x n.toNat)) ∧ w' = w := by
  have k2 : bits BinOp.and IntKind.u64 (IntKind.u64.wrap (-2)) 31 = 30 := by decide +kernel
  have k6 : bits BinOp.and IntKind.u64 (IntKind.u64.wrap (-6)) 31 = 26 := by decide +kernel
  have k7 : bits BinOp.and IntKind.u64 (IntKind.u64.wrap (-7)) 31 = 25 := by decide +kernel
  have k11 : bits BinOp.and IntKind.u64 (IntKind.u64.wrap (-11)) 31 = 21 := by decide +kernel
  have k13 : bits BinOp.and IntKind.u64 (IntKind.u64.wrap (-13)) 31 = 19 := by decide +kernel
  have k17 : bits BinOp.and IntKind.u64 (IntKind.u64.wrap (-17)) 31 = 15 := by decide +kernel
  have k18 : bits BinOp.and IntKind.u64 (IntKind.u64.wrap (-18)) 31 = 14 := by decide +kernel
  have k19 : bits BinOp.and IntKind.u64 (IntKind.u64.wrap (-19)) 31 = 13 := by decide +kernel
  have k22 : bits BinOp.and IntKind.u64 (IntKind.u64.wrap (-22)) 31 = 10 := by decide +kernel
  have k25 : bits BinOp.and IntKind.u64 (IntKind.u64.wrap (-25)) 31 = 7 := by decide +kernel
  rcases hn with rfl | rfl | rfl | rfl | rfl | rfl | rfl | rfl | rfl | rfl
  all_goals (go_enter Tryd.func33, Tryd.ntmps33; go_wp2; go_ret; exact ⟨ret_u32 rfl, rfl⟩)

def hs0 : List Int := [1779033703, 3144134277, 1013904242, 2773480762, 1359893119, 2600822924, 528734635, 1541459225]
set_option maxHeartbeats 400000 in
theorem start_any (w : World) : Calls Tryd.prog 14 #[] w fun e w' => e = .returned (.agg (r32 hs0)) ∧ Below w.heap.size w w' := by
  go_enter Tryd.func14, Tryd.ntmps14
  go_wp2
  refine bodyPost_ret (results_cell_row rfl _ _ w.heap.size 30 (r32 hs0) (0, 0) _ rfl (heap_alloc_new w _) Tryd.underlying30 rfl (by kernel_rfl)) rfl ⟨rfl, ?_⟩
  exact (Below.refl _ _).alloc (Nat.le_refl _) _

/-- the first k words of a, each with the one of b added. -/
def addK (a b : List Int) (k : Nat) : List Int := (List.range 8).map fun i => if i < k then (nth a i + nth b i) % 4294967296 else nth a i
def padd (a b : List Int) : List Int := addK a b 8
theorem addK_len (a b : List Int) (k : Nat) : (addK a b k).length = 8 := by simp [addK]
theorem addK_zero (a b : List Int) (h : a.length = 8) : addK a b 0 = a := by
  apply List.ext_getElem
  · simp [addK, h]
  · intro i h1 h2
    simp [addK, nth, List.getElem?_eq_getElem h2]
theorem addK_at (a b : List Int) (k : Nat) (hk : k < 8) : nth (addK a b k) k = nth a k := by
  show (addK a b k).getD k 0 = nth a k
  simp [addK, hk]
theorem addK_set (a b : List Int) (k : Nat) (hk : k < 8) : (addK a b k).set k ((nth a k + nth b k) % 4294967296) = addK a b (k + 1) := by
  apply List.ext_getElem
  · simp [addK]
  · intro i h1 h2
    simp [addK] at h1
    rw [List.getElem_set]
    simp only [addK, List.getElem_map, List.getElem_range]
    by_cases e : k = i
    · subst e; simp
    · rw [if_neg e]
      by_cases h3 : i < k
      · rw [if_pos h3, if_pos (by omega)]
      · rw [if_neg h3, if_neg (by omega)]
end Go.Proofs.YtfgjlfdiljlfnaaDoor
