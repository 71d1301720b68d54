/-
  The walk of text.
-/
import Derived.Test.YtfgjlfdiljlfnaaDoorP5
import Derived.Laws.IdiomStrings
namespace Go.Proofs.YtfgjlfdiljlfnaaDoor
open Go.RowKit
set_option linter.unusedVariables false

theorem info5 : (Tryd.prog.info? 5).map (fun i => (i.zero, i.size, i.bytes)) = some (some (.int .u8 0), 1, 1) := by kernel_rfl
def zb32 : List UInt8 := List.replicate 32 0
/-- a word's bytes. -/
def fourB (x : Int) : List UInt8 := [UInt8.ofNat (x / 16777216 % 256).toNat, UInt8.ofNat (x / 65536 % 256).toNat, UInt8.ofNat (x / 256 % 256).toNat, UInt8.ofNat (x % 256).toNat]
def pText (s : List Int) : Nat → List UInt8
  | 0 => []
  | k + 1 => pText s k ++ fourB (nth s k)
theorem pText_len (s : List Int) : ∀ k, (pText s k).length = 4 * k
  | 0 => rfl
  | k + 1 => by simp [pText, pText_len s k, fourB]; omega
theorem nth_mem (l : List Int) (k : Nat) (h : k < l.length) : nth l k ∈ l := by
  unfold nth
  rw [show l.getD k 0 = l[k] from by simp [h]]
  exact List.getElem_mem h

theorem bc4 (x : Int) (h0 : 0 ≤ x) (h1 : x < 4294967296) : [Value.int .u8 (x / 16777216), .int .u8 (x / 65536 % 256), .int .u8 (x / 256 % 256), .int .u8 (x % 256)] = Lib.byteCells (fourB x) := by
  have e : x / 16777216 = x / 16777216 % 256 := by omega
  simp only [Lib.byteCells, fourB, List.map_cons, List.map_nil, u8n]
  rw [← e]
theorem bcApp (a b : List UInt8) : Lib.byteCells a ++ Lib.byteCells b = Lib.byteCells (a ++ b) := by simp [Lib.byteCells]

set_option maxHeartbeats 1000000 in
set_option maxRecDepth 100000 in
theorem text_any (s : List Int) (hs : s.length = 8) (hsw : ∀ x ∈ s, 0 ≤ x ∧ x < 4294967296) (w : World) :
    Calls Tryd.prog 20 #[.agg (r32 s)] w fun e w' => e = .returned (.string ⟨(pText s 8).toArray⟩) ∧ Below w.heap.size w w' := by
  have hmk : ∀ w, (Instr.makeSlice 51 (.int .i64 0) (.int .i64 32)).run Tryd.prog w = .ok (.slice (some ⟨w.heap.size, 0, none⟩) 0 32) (w.alloc (.cells (r8 zb32) 5)) := fun _ => by kernel_rfl
  have hix : ∀ (k : Nat), k < 8 → ∀ wx, (Instr.index 30 (.agg (r32 s)) (.int .i64 k)).run Tryd.prog wx = .ok (.int .u32 (nth s k)) wx := by
    intro k hk wx
    have e1 : (part 28 (r32 s) k).run Tryd.prog wx = .ok (.int .u32 (nth s k)) wx := by
      have h2 := r32_get s k (by omega)
      simp [part, h2]
    simp [Instr.index, asIntOf, run_underlying Tryd.underlying30, e1]
    omega
  have H0 := heap_alloc_new w (Obj.cells (r32 s) 30)
  go_enter Tryd.func20, Tryd.ntmps20
  go_wp2_with (first | (refine wpList_load_row rfl 30 _ rfl w.heap.size rfl 30 (r32 s) (0, 0) _ ((Below.heap_alloc _ _ _ (by simp)).trans H0) Tryd.underlying30 rfl (by rw [r32_size, hs]; exact i30) ?_))
  obtain ⟨W, hW⟩ : ∃ W, (w.alloc (Obj.cells (r32 s) 30)).alloc (Obj.cells (r8 zb32) 5) = W := ⟨_, rfl⟩
  have hown : W.ownsRow (w.heap.size + 1) 5 1 (.slice (some ⟨w.heap.size + 1, 0, none⟩) 0 32) 0 [] := by
    have := World.ownsRow_made (base := w.heap.size + 1) (e := 5) (size := 1) (w.alloc (Obj.cells (r32 s) 30)) (r8 zb32) 32 (by simp) (by unfold maxLen; omega) (by rw [r8_size]; rfl)
    rw [World.size_alloc] at this
    rw [← hW]; exact this
  have hb : Below w.heap.size w W := by rw [← hW]; exact ((Below.refl _ _).alloc (Nat.le_refl _) _).alloc (by simp) _
  have hWs : w.heap.size + 2 ≤ W.heap.size := by rw [← hW]; simp
  change Code.wp _ _ _ _ ((w.alloc (Obj.cells (r32 s) 30)).alloc (Obj.cells (r8 zb32) 5))
  rw [hW]
  clear hW H0 hmk
  obtain ⟨i0, hi, hz0, hz1, hz2⟩ := info_parts info5
  go_loopw [3, 8] (fun v i wr => ∃ k : Nat, k ≤ 8 ∧ i = .int .i64 k ∧ wr.ownsRow (w.heap.size + 1) 5 1 v (4 * k) (Lib.byteCells (pText s k)) ∧ Below w.heap.size w wr ∧ w.heap.size + 2 ≤ wr.heap.size ∧ ∃ g c, v = .slice (some ⟨g, 0, none⟩) (4 * k) c) (fun _ i _ => 8 - (intOf i).toNat)
  case atStart => exact ⟨0, by omega, rfl, hown, hb, hWs, _, _, rfl⟩
  case round =>
    obtain ⟨k, hk, rfl, hrow, hbl, hsz, g, cp, rfl⟩ := hrel
    clear hown hb hWs
    by_cases hlt : k < 8
    · have hx := hix k hlt
      have HX := (show Hid (∀ (k : Nat), k < 8 → ∀ wx, (Instr.index 30 (.agg (r32 s)) (.int .i64 k)).run Tryd.prog wx = .ok (.int .u32 (nth s k)) wx) from hix)
      have hn := hsw (nth s k) (nth_mem s k (by omega))
      clear hix
      go_wp2_with (first | (at_builtin; refine wpList_append_own _ rfl _ _ 51 rfl (w.heap.size + 1) 5 i0 (.int .u8 0) 1 1 Tryd.underlying51 hi hz0 hz1 hz2 rfl (by decide) _ _ _ rfl (hrow.alloc _) ⟨wr.heap.size, 0, none⟩ 4 4 [.int .u8 (nth s k / 16777216), .int .u8 (nth s k / 65536 % 256), .int .u8 (nth s k / 256 % 256), .int .u8 (nth s k % 256)] rfl rfl ?c1 ?c2 ?c3 ?c4 ?c5 ?_))
      case c1 =>
        intro j u hj
        match j, hj with
        | 0, hj => simp at hj; subst hj; simp [Addr.add]
        | 1, hj => simp at hj; subst hj; simp [Addr.add]
        | 2, hj => simp at hj; subst hj; simp [Addr.add]
        | 3, hj => simp at hj; subst hj; simp [Addr.add]
      case c2 => intro u hu; simp at hu; rcases hu with rfl | rfl | rfl | rfl <;> rfl
      case c3 => unfold maxLen; omega
      case c4 => omega
      case c5 => simp; omega
      intro v' w1 hown' hgrow _
      rw [bc4 _ hn.1 hn.2, bcApp] at hown'
      obtain ⟨g', cp', rfl⟩ : ∃ g' cp', v' = .slice (some ⟨g', 0, none⟩) (4 * k + 4) cp' := by
        rcases hown'.2 with ⟨_, h0⟩ | ⟨g, cap, cur, hv, _⟩
        · omega
        · exact ⟨g, cap, hv⟩
      have hbl' : Below w.heap.size w w1 := (hbl.alloc (by omega) _).grown hgrow (by simp; omega) (fun q hq => by have := (hrow.lt q hq).1; omega)
      have hsz' : w.heap.size + 2 ≤ w1.heap.size := by have := hgrow.size; simp at this; omega
      have HO : Hid (w1.ownsRow (w.heap.size + 1) 5 1 (.slice (some ⟨g', 0, none⟩) (4 * k + 4) cp') (4 * k + 4) (Lib.byteCells (pText s k ++ fourB (nth s k)))) := hown'
      clear hown' hgrow hrow
      go_wp2
      go_roundw
      case rel => exact ⟨k + 1, by omega, by go_num, HO.out, hbl', hsz', _, _, rfl⟩
      case measure => simp [intOf]; omega
    · obtain rfl : k = 8 := by omega
      have hcv : (convert 51 9 (.slice (some ⟨g, 0, none⟩) (4 * 8) cp)).run Tryd.prog wr = .ok (.string ⟨(pText s 8).toArray⟩) wr := by
        have := run_convert_bytes_back (P := Tryd.prog) wr 51 9 5 ⟨g, 0, none⟩ cp (pText s 8) Tryd.underlying51 Tryd.underlying5 Tryd.underlying9 (by
          intro j hj
          rw [Addr.add_mid, Nat.zero_add, hrow.cellAt j (by rw [pText_len] at hj; omega)]
          simp [Lib.byteCells, List.getElem?_eq_getElem hj])
        rw [pText_len] at this
        exact this
      clear hix
      go_wp2
      go_ret
      exact ⟨rfl, hbl⟩
end Go.Proofs.YtfgjlfdiljlfnaaDoor
