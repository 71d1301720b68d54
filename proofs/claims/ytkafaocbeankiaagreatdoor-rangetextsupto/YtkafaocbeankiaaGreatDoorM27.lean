import Derived.Test.YtkafaocbeankiaaGreatDoorM26
import Derived.Below
import Derived.Deep.RegionHeld3
import Derived.Test.YtkafaocbeankiaaGreatDoorM22
import Derived.Shelf.SlSortCmp.NoneTotal
import Derived.Test.YtkafaocbeankiaaGreatDoorProg
/-
  Compare, walked.
-/
namespace Go.Proofs.YtkafaocbeankiaaGreatDoor.G
open Go.RowKit
set_option linter.unusedVariables false

def or3 (x y z : Int) : Int := if x = 0 then (if y = 0 then z else y) else x
set_option maxHeartbeats 400000 in
theorem or_any (x y z : Int) (b : Nat) (w : World) (h0 : w.cell? ⟨b, 0, none⟩ = some (.int .i64 x)) (h1 : w.cell? ⟨b, 1, none⟩ = some (.int .i64 y)) (h2 : w.cell? ⟨b, 2, none⟩ = some (.int .i64 z)) :
    Calls Tryz.prog 51 #[.slice (some ⟨b, 0, none⟩) 3 3] w fun e w' => e = .returned (.int .i64 (or3 x y z)) ∧ w' = w := by
  obtain ⟨R, hR⟩ : ∃ R, R = or3 x y z := ⟨_, rfl⟩
  have HR : Hid (R = or3 x y z) := hR
  rw [← hR]
  clear hR
  go_enter Tryz.func51, Tryz.ntmps51
  go_wp2
  go_loop [8] (fun i => ∃ k : Nat, k ≤ 3 ∧ i = .int .i64 k ∧ (1 ≤ k → x = 0) ∧ (2 ≤ k → y = 0) ∧ (3 ≤ k → z = 0)) (fun i => 3 - (intOf i).toNat)
  case atStart => exact ⟨0, by omega, rfl, by omega, by omega, by omega⟩
  case round =>
    obtain ⟨k, hk, rfl, k1, k2, k3⟩ := hrel
    rcases (show k = 0 ∨ k = 1 ∨ k = 2 ∨ k = 3 by omega) with rfl | rfl | rfl | rfl
    · clear k1 k2 k3 hk
      cases hz : (x == 0) with
      | true =>
        have hx : x = 0 := by simpa using hz
        go_wp2
        go_round
        case rel => exact ⟨1, by omega, rfl, fun _ => hx, by omega, by omega⟩
        case measure => simp [intOf]
      | false =>
        have HZ : Hid (R = x) := by show R = x; rw [HR.out]; unfold or3; rw [if_neg (by simpa using hz)]
        go_wp2
        go_ret
        exact ⟨ret_int HZ.out.symm, rfl⟩
    · have hx : Hid (x = 0) := k1 (by omega)
      clear k1 k2 k3 hk
      cases hz : (y == 0) with
      | true =>
        have hy : y = 0 := by simpa using hz
        go_wp2
        go_round
        case rel => exact ⟨2, by omega, rfl, fun _ => hx.out, fun _ => hy, by omega⟩
        case measure => simp [intOf]
      | false =>
        have HZ : Hid (R = y) := by show R = y; rw [HR.out]; unfold or3; rw [if_pos hx.out, if_neg (by simpa using hz)]
        go_wp2
        go_ret
        exact ⟨ret_int HZ.out.symm, rfl⟩
    · have hx : Hid (x = 0) := k1 (by omega)
      have hy : Hid (y = 0) := k2 (by omega)
      clear k1 k2 k3 hk
      have HZ : Hid (R = z) := by show R = z; rw [HR.out]; unfold or3; rw [if_pos hx.out, if_pos hy.out]
      cases hz : (z == 0) with
      | true =>
        have hy' : z = 0 := by simpa using hz
        go_wp2
        go_round
        case rel => exact ⟨3, by omega, rfl, fun _ => hx.out, fun _ => hy.out, fun _ => hy'⟩
        case measure => simp [intOf]
      | false =>
        go_wp2
        go_ret
        exact ⟨ret_int HZ.out.symm, rfl⟩
    · have HZ : Hid (R = 0) := by show R = 0; rw [HR.out]; unfold or3; rw [if_pos (k1 (by omega)), if_pos (k2 (by omega)), k3 (by omega)]
      clear k1 k2 k3 hk
      go_wp2
      go_ret
      exact ⟨ret_int HZ.out.symm, rfl⟩

theorem verC_or (a b : V) : verC a b = if or3 (Lib.compareInt a.major b.major) (Lib.compareInt a.minor b.minor) (Lib.compareInt a.patch b.patch) = 0 then preC a.pre b.pre else or3 (Lib.compareInt a.major b.major) (Lib.compareInt a.minor b.minor) (Lib.compareInt a.patch b.patch) := by
  rw [verC_eq]; unfold or3
  repeat' split
  all_goals first | rfl | (exfalso; omega) | omega

set_option maxHeartbeats 800000 in
theorem compare_any (a1 a2 a3 b1 b2 b3 : Int) (a4 a5 b4 b5 : ByteArray) (w : World) (hs : a4.size < 2 ^ 62) (hs' : b4.size < 2 ^ 62) :
    Calls Tryz.prog 36 #[.agg #[.int .i64 a1, .int .i64 a2, .int .i64 a3, .string a4, .string a5], .agg #[.int .i64 b1, .int .i64 b2, .int .i64 b3, .string b4, .string b5]] w fun e w' => e = .returned (.int .i64 (verC ⟨a1, a2, a3, a4.data.toList⟩ ⟨b1, b2, b3, b4.data.toList⟩)) ∧ Gr w w' := by
  obtain ⟨R, hR⟩ : ∃ R, R = verC ⟨a1, a2, a3, a4.data.toList⟩ ⟨b1, b2, b3, b4.data.toList⟩ := ⟨_, rfl⟩
  obtain ⟨x, hx⟩ : ∃ x, x = Lib.compareInt a1 b1 := ⟨_, rfl⟩
  obtain ⟨y, hy⟩ : ∃ y, y = Lib.compareInt a2 b2 := ⟨_, rfl⟩
  obtain ⟨z, hz⟩ : ∃ z, z = Lib.compareInt a3 b3 := ⟨_, rfl⟩
  obtain ⟨p, hp⟩ : ∃ p, p = preC a4.data.toList b4.data.toList := ⟨_, rfl⟩
  obtain ⟨o, ho⟩ : ∃ o, o = or3 x y z := ⟨_, rfl⟩
  have HR : Hid (R = if o = 0 then p else o) := by
    show R = if o = 0 then p else o
    rw [hR, verC_or, ho, hx, hy, hz, hp]
  have C1 : Hid (∀ w, Calls Tryz.prog 52 #[.int .i64 a1, .int .i64 b1] w fun e w' => e = .returned (.int .i64 x) ∧ w' = w) := fun w => by rw [hx]; exact cmpInt_any _ _ w
  have C2 : Hid (∀ w, Calls Tryz.prog 52 #[.int .i64 a2, .int .i64 b2] w fun e w' => e = .returned (.int .i64 y) ∧ w' = w) := fun w => by rw [hy]; exact cmpInt_any _ _ w
  have C3 : Hid (∀ w, Calls Tryz.prog 52 #[.int .i64 a3, .int .i64 b3] w fun e w' => e = .returned (.int .i64 z) ∧ w' = w) := fun w => by rw [hz]; exact cmpInt_any _ _ w
  have CP : Hid (∀ w, Calls Tryz.prog 53 #[.string a4, .string b4] w fun e w' => e = .returned (.int .i64 p) ∧ Gr w w') := fun w => by rw [hp]; exact pre_any a4 b4 w hs hs'
  have CO : Hid (∀ (b : Nat) (w : World), w.cell? ⟨b, 0, none⟩ = some (.int .i64 x) → w.cell? ⟨b, 1, none⟩ = some (.int .i64 y) → w.cell? ⟨b, 2, none⟩ = some (.int .i64 z) → Calls Tryz.prog 51 #[.slice (some ⟨b, 0, none⟩) 3 3] w fun e w' => e = .returned (.int .i64 o) ∧ w' = w) := fun b w h0 h1 h2 => by rw [ho]; exact or_any x y z b w h0 h1 h2
  rw [← hR]
  clear hR hx hy hz hp ho hs hs'
  go_enter Tryz.func36, Tryz.ntmps36
  go_wp2
  obtain ⟨W, hW⟩ : ∃ W, (w.alloc (.cells #[.int .i64 a1, .int .i64 a2, .int .i64 a3, .string a4, .string a5] 35)).alloc (.cells #[.int .i64 b1, .int .i64 b2, .int .i64 b3, .string b4, .string b5] 35) = W := ⟨_, rfl⟩
  rw [hW]
  have g1 : W.heap[w.heap.size]? = some (.cells #[.int .i64 a1, .int .i64 a2, .int .i64 a3, .string a4, .string a5] 35 (0, 0)) := by
    rw [← hW, Lib.alloc_old _ _ _ (by simp)]
    exact heap_alloc_new w _
  have g2 : W.heap[w.heap.size + 1]? = some (.cells #[.int .i64 b1, .int .i64 b2, .int .i64 b3, .string b4, .string b5] 35 (0, 0)) := by
    rw [← hW]
    have := heap_alloc_new (w.alloc (.cells #[.int .i64 a1, .int .i64 a2, .int .i64 a3, .string a4, .string a5] 35)) (.cells #[.int .i64 b1, .int .i64 b2, .int .i64 b3, .string b4, .string b5] 35)
    rw [show (w.alloc (.cells #[.int .i64 a1, .int .i64 a2, .int .i64 a3, .string a4, .string a5] 35)).heap.size = w.heap.size + 1 by simp] at this
    exact this
  have HGW : Hid (Gr w W) := by
    show Gr w W
    rw [← hW]
    exact ⟨⟨rfl, rfl, rfl, by simp; omega, fun k hk _ => by rw [Lib.alloc_old _ _ _ (by simp; omega), Lib.alloc_old _ _ _ hk]⟩, Nat.le_refl _⟩
  have HSZ : Hid (W.heap.size = w.heap.size + 2) := by
    show W.heap.size = w.heap.size + 2
    rw [← hW]; simp
  obtain ⟨A, hA⟩ : ∃ A, w.heap.size = A := ⟨_, rfl⟩
  rw [hA] at g1 g2
  rw [hA]
  have HA : Hid (W.heap.size = A + 2) := by
    show W.heap.size = A + 2
    rw [← hA]; exact HSZ.out
  have c0 : W.cell? ⟨A, 0, none⟩ = some (.int .i64 a1) := by rw [Lib.cell_of_heap g1]; rfl
  have c1 : W.cell? ⟨A, 1, none⟩ = some (.int .i64 a2) := by rw [Lib.cell_of_heap g1]; rfl
  have c2 : W.cell? ⟨A, 2, none⟩ = some (.int .i64 a3) := by rw [Lib.cell_of_heap g1]; rfl
  have c3 : Hid (W.cell? ⟨A, 3, none⟩ = some (.string a4)) := by show W.cell? _ = _; rw [Lib.cell_of_heap g1]; rfl
  have d0 : W.cell? ⟨A + 1, 0, none⟩ = some (.int .i64 b1) := by rw [Lib.cell_of_heap g2]; rfl
  have d1 : W.cell? ⟨A + 1, 1, none⟩ = some (.int .i64 b2) := by rw [Lib.cell_of_heap g2]; rfl
  have d2 : W.cell? ⟨A + 1, 2, none⟩ = some (.int .i64 b3) := by rw [Lib.cell_of_heap g2]; rfl
  have d3 : Hid (W.cell? ⟨A + 1, 3, none⟩ = some (.string b4)) := by show W.cell? _ = _; rw [Lib.cell_of_heap g2]; rfl
  clear hW hA HSZ g1 g2
  go_region_held3 (fun w' => w'.cell? ⟨A, 0, none⟩ = some (.int .i64 a1) ∧ w'.cell? ⟨A, 1, none⟩ = some (.int .i64 a2) ∧ w'.cell? ⟨A, 2, none⟩ = some (.int .i64 a3) ∧ w'.cell? ⟨A + 1, 0, none⟩ = some (.int .i64 b1) ∧ w'.cell? ⟨A + 1, 1, none⟩ = some (.int .i64 b2) ∧ w'.cell? ⟨A + 1, 2, none⟩ = some (.int .i64 b3)) (go_keep) (first | (go_at_call_of 52 (Value.int .i64 a1); refine (C1.out _).mono ?_; rintro e w' ⟨rfl, rfl⟩) | (go_at_call_of 52 (Value.int .i64 a2); refine (C2.out _).mono ?_; rintro e w' ⟨rfl, rfl⟩) | (go_at_call_of 52 (Value.int .i64 a3); refine (C3.out _).mono ?_; rintro e w' ⟨rfl, rfl⟩) | (go_at_call 51; refine (CO.out _ _ (by simp) (by simp) (by simp)).mono ?_; rintro e w' ⟨rfl, rfl⟩))
  obtain ⟨W2, hW2⟩ : ∃ W2, (W.alloc (.cells #[.int .i64 x, .int .i64 y, .int .i64 z] 3)).drew = W2 := ⟨_, rfl⟩
  rw [hW2]
  have hlt : A < W.heap.size ∧ A + 1 < W.heap.size := by have := HA.out; omega
  have e3 : W2.cell? ⟨A, 3, none⟩ = some (.string a4) := by
    rw [← hW2]
    exact (World.cell?_of_block (show ((W.alloc _).drew).heap[A]? = W.heap[A]? from Lib.alloc_old W _ A hlt.1)).trans c3.out
  have f3 : W2.cell? ⟨A + 1, 3, none⟩ = some (.string b4) := by
    rw [← hW2]
    exact (World.cell?_of_block (show ((W.alloc _).drew).heap[A + 1]? = W.heap[A + 1]? from Lib.alloc_old W _ (A + 1) hlt.2)).trans d3.out
  have HG2 : Hid (Gr w W2) := by
    show Gr w W2
    rw [← hW2]
    have h1 : Gr W ((W.alloc (.cells #[.int .i64 x, .int .i64 y, .int .i64 z] 3)).drew) := ⟨⟨rfl, rfl, rfl, by simp, fun k hk _ => Lib.alloc_old W _ k hk⟩, Nat.le_succ _⟩
    exact gr_trans HGW.out h1
  clear hW2 hlt c0 c1 c2 c3 d0 d1 d2 d3 HA HGW C1 C2 C3 CO
  cases hz : (o == 0) with
  | false =>
    have HZ : Hid (R = o) := by show R = o; rw [HR.out, if_neg (by simpa using hz)]
    go_wp2
    go_ret
    exact ⟨ret_int HZ.out.symm, HG2.out⟩
  | true =>
    have HZ : Hid (R = p) := by show R = p; rw [HR.out, if_pos (by simpa using hz)]
    go_wp2_with (first | (go_at_call 53; refine (CP.out _).mono ?_; rintro e w4 ⟨rfl, hg4⟩))
    go_ret
    exact ⟨ret_int HZ.out.symm, gr_trans HG2.out hg4⟩
end Go.Proofs.YtkafaocbeankiaaGreatDoor.G

/-
  How edges are compared, walked.
-/
namespace Go.Proofs.YtkafaocbeankiaaGreatDoor
open Go.RowKit
set_option linter.unusedVariables false

set_option maxRecDepth 100000 in
set_option maxHeartbeats 800000 in
theorem cmpE_any (x y : Er) (w : World) (hx : x.a4.size ≤ 1048576) (hy : y.a4.size ≤ 1048576) :
    Calls Tryz.prog 50 #[.agg (erC x).toArray, .agg (erC y).toArray] w fun e w' => e = .returned (.int .i64 (verC (toEd x).at_ (toEd y).at_)) ∧ Gr w w' := by
  obtain ⟨a1, a2, a3, a4, a5, l, d⟩ := x
  obtain ⟨b1, b2, b3, b4, b5, m, c⟩ := y
  obtain ⟨r, hr⟩ : ∃ r, verC (toEd ⟨a1, a2, a3, a4, a5, l, d⟩).at_ (toEd ⟨b1, b2, b3, b4, b5, m, c⟩).at_ = r := ⟨_, rfl⟩
  have CC : Hid (∀ w, Calls Tryz.prog 36 #[.agg #[.int .i64 a1, .int .i64 a2, .int .i64 a3, .string a4, .string a5], .agg #[.int .i64 b1, .int .i64 b2, .int .i64 b3, .string b4, .string b5]] w fun e w' => e = .returned (.int .i64 r) ∧ Gr w w') := fun w => by
    rw [← hr]; exact G.compare_any a1 a2 a3 b1 b2 b3 a4 a5 b4 b5 w (by simp at hx; omega) (by simp at hy; omega)
  rw [hr]
  clear hr hx hy
  show Calls Tryz.prog 50 #[.agg #[.int .i64 a1, .int .i64 a2, .int .i64 a3, .string a4, .string a5, .int .i64 l, .int .i64 d], .agg #[.int .i64 b1, .int .i64 b2, .int .i64 b3, .string b4, .string b5, .int .i64 m, .int .i64 c]] w _
  go_enter Tryz.func50, Tryz.ntmps50
  go_wp2_with (first | (go_at_call 36; refine (CC.out _).mono ?_))
  rintro e w1 ⟨rfl, hg⟩
  go_wp2
  go_ret
  exact ⟨rfl, gr_trans (gr_alloc (gr_alloc (gr_refl w) _) _) hg⟩
end Go.Proofs.YtkafaocbeankiaaGreatDoor

namespace Go.Proofs
open Go.Shelf
def Tryz.laysSort_ren : Go.Shelf.Ren := ⟨fun | 6 => 49 | 14 => 62 | 15 => 63 | 20 => 74 | 21 => 75 | 22 => 76 | 23 => 77 | 24 => 78 | 25 => 79 | 26 => 80 | 27 => 81 | 28 => 82 | 29 => 83 | 46 => 95 | 47 => 96 | 48 => 97 | 49 => 98 | 50 => 99 | 57 => 109 | n => n, fun | 22 => 76 | 23 => 93 | 24 => 79 | 25 => 94 | 27 => 75 | 29 => 70 | 37 => 104 | 38 => 105 | 39 => 106 | 42 => 63 | 44 => 123 | 45 => 124 | 46 => 125 | 47 => 126 | 48 => 127 | 49 => 128 | 50 => 129 | 51 => 130 | 52 => 131 | 53 => 132 | 54 => 115 | 55 => 114 | 66 => 142 | 67 => 143 | 68 => 144 | 69 => 145 | 70 => 81 | 71 => 146 | 76 => 154 | 77 => 155 | 78 => 156 | 81 => 62 | 82 => 172 | 83 => 173 | 84 => 174 | 85 => 175 | 86 => 176 | 87 => 177 | 88 => 178 | 89 => 179 | 90 => 180 | 91 => 85 | 92 => 181 | 93 => 182 | 94 => 183 | 95 => 184 | 96 => 98 | n => n, fun n => n⟩
set_option maxRecDepth 100000 in
theorem Tryz.laysSort : Go.Proofs.SlLaysF0.n6 Tryz.prog Tryz.laysSort_ren := {
  mixed := by kernel_rfl
  f6 := ⟨"slices.SortFunc[[]pantry/span.edge,pantry/span.edge]", by decide, Tryz.func49.trans (congrArg some (by kernel_rfl))⟩
  f14 := ⟨"slices.pdqsortCmpFunc[pantry/span.edge]", by decide, Tryz.func62.trans (congrArg some (by kernel_rfl))⟩
  f15 := Tryz.func63.trans (congrArg some (by kernel_rfl))
  f20 := ⟨"slices.insertionSortCmpFunc[pantry/span.edge]", by decide, Tryz.func74.trans (congrArg some (by kernel_rfl))⟩
  f21 := ⟨"slices.heapSortCmpFunc[pantry/span.edge]", by decide, Tryz.func75.trans (congrArg some (by kernel_rfl))⟩
  f22 := ⟨"slices.breakPatternsCmpFunc[pantry/span.edge]", by decide, Tryz.func76.trans (congrArg some (by kernel_rfl))⟩
  f23 := ⟨"slices.choosePivotCmpFunc[pantry/span.edge]", by decide, Tryz.func77.trans (congrArg some (by kernel_rfl))⟩
  f24 := ⟨"slices.reverseRangeCmpFunc[pantry/span.edge]", by decide, Tryz.func78.trans (congrArg some (by kernel_rfl))⟩
  f25 := ⟨"slices.partialInsertionSortCmpFunc[pantry/span.edge]", by decide, Tryz.func79.trans (congrArg some (by kernel_rfl))⟩
  f26 := ⟨"slices.partitionEqualCmpFunc[pantry/span.edge]", by decide, Tryz.func80.trans (congrArg some (by kernel_rfl))⟩
  f27 := ⟨"slices.partitionCmpFunc[pantry/span.edge]", by decide, Tryz.func81.trans (congrArg some (by kernel_rfl))⟩
  f28 := Tryz.func82.trans (congrArg some (by kernel_rfl))
  f29 := Tryz.func83.trans (congrArg some (by kernel_rfl))
  f46 := ⟨"slices.siftDownCmpFunc[pantry/span.edge]", by decide, Tryz.func95.trans (congrArg some (by kernel_rfl))⟩
  f47 := Tryz.func96.trans (congrArg some (by kernel_rfl))
  f48 := Tryz.func97.trans (congrArg some (by kernel_rfl))
  f49 := ⟨"slices.medianAdjacentCmpFunc[pantry/span.edge]", by decide, Tryz.func98.trans (congrArg some (by kernel_rfl))⟩
  f50 := ⟨"slices.medianCmpFunc[pantry/span.edge]", by decide, Tryz.func99.trans (congrArg some (by kernel_rfl))⟩
  f57 := ⟨"slices.order2CmpFunc[pantry/span.edge]", by decide, Tryz.func109.trans (congrArg some (by kernel_rfl))⟩
  t0 := Tryz.underlying0
  a0 := Tryz.isAgg0
  z0 := Tryz.sizeOf0
  v0 := Tryz.zeroValue0
  t3 := Tryz.underlying3
  a3 := Tryz.isAgg3
  z3 := Tryz.sizeOf3
  v3 := Tryz.zeroValue3
  t4 := Tryz.underlying4
  a4 := Tryz.isAgg4
  z4 := Tryz.sizeOf4
  v4 := Tryz.zeroValue4
  t5 := Tryz.underlying5
  a5 := Tryz.isAgg5
  z5 := Tryz.sizeOf5
  v5 := Tryz.zeroValue5
  t9 := Tryz.underlying9
  a9 := Tryz.isAgg9
  z9 := Tryz.sizeOf9
  v9 := Tryz.zeroValue9
  t22 := Tryz.underlying76
  a22 := Tryz.isAgg76
  z22 := Tryz.sizeOf76
  v22 := Tryz.zeroValue76
  t25 := Tryz.underlying94
  a25 := Tryz.isAgg94
  z25 := Tryz.sizeOf94
  v25 := Tryz.zeroValue94
  t39 := Tryz.underlying106
  a39 := Tryz.isAgg106
  z39 := Tryz.sizeOf106
  v39 := Tryz.zeroValue106
  t45 := Tryz.underlying124
  a45 := Tryz.isAgg124
  z45 := Tryz.sizeOf124
  v45 := Tryz.zeroValue124
  t46 := Tryz.underlying125
  a46 := Tryz.isAgg125
  z46 := Tryz.sizeOf125
  v46 := Tryz.zeroValue125
  t50 := Tryz.underlying129
  a50 := Tryz.isAgg129
  z50 := Tryz.sizeOf129
  v50 := Tryz.zeroValue129
  t53 := Tryz.underlying132
  a53 := Tryz.isAgg132
  z53 := Tryz.sizeOf132
  v53 := Tryz.zeroValue132
  t55 := Tryz.underlying114
  a55 := Tryz.isAgg114
  z55 := Tryz.sizeOf114
  v55 := Tryz.zeroValue114
  t66 := Tryz.underlying142
  a66 := Tryz.isAgg142
  z66 := Tryz.sizeOf142
  v66 := Tryz.zeroValue142
  t70 := Tryz.underlying81
  a70 := Tryz.isAgg81
  z70 := Tryz.sizeOf81
  v70 := Tryz.zeroValue81
  t76 := Tryz.underlying154
  a76 := Tryz.isAgg154
  z76 := Tryz.sizeOf154
  v76 := Tryz.zeroValue154
  t77 := Tryz.underlying155
  a77 := Tryz.isAgg155
  z77 := Tryz.sizeOf155
  v77 := Tryz.zeroValue155 }
end Go.Proofs
