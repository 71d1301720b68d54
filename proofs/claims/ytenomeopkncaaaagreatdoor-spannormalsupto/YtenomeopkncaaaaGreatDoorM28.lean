import Derived.Test.YtenomeopkncaaaaGreatDoorM27
import Derived.Below
import Derived.Deep.RegionHeld3
import Derived.Test.YtenomeopkncaaaaGreatDoorM22
import Derived.Shelf.SlSortCmp.NoneTotal
import Derived.Test.YtenomeopkncaaaaGreatDoorProg
/-
  Compare, walked.
-/
namespace Go.Proofs.YtenomeopkncaaaaGreatDoor.G
open Go.RowKit
set_option linter.unusedVariables false

def or3 (x y z : Int) : Int := if x = 0 then (if y = 0 then z else y) else x
set_option maxHeartbeats 400000 in
theorem or_any (x y z : Int) (b : Nat) (w : World) (h0 : w.cell? ⟨b, 0, none⟩ = some (.int .i64 x)) (h1 : w.cell? ⟨b, 1, none⟩ = some (.int .i64 y)) (h2 : w.cell? ⟨b, 2, none⟩ = some (.int .i64 z)) :
    Calls Tryz.prog 35 #[.slice (some ⟨b, 0, none⟩) 3 3] w fun e w' => e = .returned (.int .i64 (or3 x y z)) ∧ w' = w := by
  obtain ⟨R, hR⟩ : ∃ R, R = or3 x y z := ⟨_, rfl⟩
  have HR : Hid (R = or3 x y z) := hR
  rw [← hR]
  clear hR
  go_enter Tryz.func35, Tryz.ntmps35
  go_wp2
  go_loop [8] (fun i => ∃ k : Nat, k ≤ 3 ∧ i = .int .i64 k ∧ (1 ≤ k → x = 0) ∧ (2 ≤ k → y = 0) ∧ (3 ≤ k → z = 0)) (fun i => 3 - (intOf i).toNat)
  case atStart => exact ⟨0, by omega, rfl, by omega, by omega, by omega⟩
  case round =>
    obtain ⟨k, hk, rfl, k1, k2, k3⟩ := hrel
    rcases (show k = 0 ∨ k = 1 ∨ k = 2 ∨ k = 3 by omega) with rfl | rfl | rfl | rfl
    · clear k1 k2 k3 hk
      cases hz : (x == 0) with
      | true =>
        have hx : x = 0 := by simpa using hz
        go_wp2
        go_round
        case rel => exact ⟨1, by omega, rfl, fun _ => hx, by omega, by omega⟩
        case measure => simp [intOf]
      | false =>
        have HZ : Hid (R = x) := by show R = x; rw [HR.out]; unfold or3; rw [if_neg (by simpa using hz)]
        go_wp2
        go_ret
        exact ⟨ret_int HZ.out.symm, rfl⟩
    · have hx : Hid (x = 0) := k1 (by omega)
      clear k1 k2 k3 hk
      cases hz : (y == 0) with
      | true =>
        have hy : y = 0 := by simpa using hz
        go_wp2
        go_round
        case rel => exact ⟨2, by omega, rfl, fun _ => hx.out, fun _ => hy, by omega⟩
        case measure => simp [intOf]
      | false =>
        have HZ : Hid (R = y) := by show R = y; rw [HR.out]; unfold or3; rw [if_pos hx.out, if_neg (by simpa using hz)]
        go_wp2
        go_ret
        exact ⟨ret_int HZ.out.symm, rfl⟩
    · have hx : Hid (x = 0) := k1 (by omega)
      have hy : Hid (y = 0) := k2 (by omega)
      clear k1 k2 k3 hk
      have HZ : Hid (R = z) := by show R = z; rw [HR.out]; unfold or3; rw [if_pos hx.out, if_pos hy.out]
      cases hz : (z == 0) with
      | true =>
        have hy' : z = 0 := by simpa using hz
        go_wp2
        go_round
        case rel => exact ⟨3, by omega, rfl, fun _ => hx.out, fun _ => hy.out, fun _ => hy'⟩
        case measure => simp [intOf]
      | false =>
        go_wp2
        go_ret
        exact ⟨ret_int HZ.out.symm, rfl⟩
    · have HZ : Hid (R = 0) := by show R = 0; rw [HR.out]; unfold or3; rw [if_pos (k1 (by omega)), if_pos (k2 (by omega)), k3 (by omega)]
      clear k1 k2 k3 hk
      go_wp2
      go_ret
      exact ⟨ret_int HZ.out.symm, rfl⟩

theorem verC_or (a b : V) : verC a b = if or3 (Lib.compareInt a.major b.major) (Lib.compareInt a.minor b.minor) (Lib.compareInt a.patch b.patch) = 0 then preC a.pre b.pre else or3 (Lib.compareInt a.major b.major) (Lib.compareInt a.minor b.minor) (Lib.compareInt a.patch b.patch) := by
  rw [verC_eq]; unfold or3
  repeat' split
  all_goals first | rfl | (exfalso; omega) | omega

set_option maxHeartbeats 800000 in
theorem compare_any (a1 a2 a3 b1 b2 b3 : Int) (a4 a5 b4 b5 : ByteArray) (w : World) (hs : a4.size < 2 ^ 62) (hs' : b4.size < 2 ^ 62) :
    Calls Tryz.prog 25 #[.agg #[.int .i64 a1, .int .i64 a2, .int .i64 a3, .string a4, .string a5], .agg #[.int .i64 b1, .int .i64 b2, .int .i64 b3, .string b4, .string b5]] w fun e w' => e = .returned (.int .i64 (verC ⟨a1, a2, a3, a4.data.toList⟩ ⟨b1, b2, b3, b4.data.toList⟩)) ∧ Gr w w' := by
  obtain ⟨R, hR⟩ : ∃ R, R = verC ⟨a1, a2, a3, a4.data.toList⟩ ⟨b1, b2, b3, b4.data.toList⟩ := ⟨_, rfl⟩
  obtain ⟨x, hx⟩ : ∃ x, x = Lib.compareInt a1 b1 := ⟨_, rfl⟩
  obtain ⟨y, hy⟩ : ∃ y, y = Lib.compareInt a2 b2 := ⟨_, rfl⟩
  obtain ⟨z, hz⟩ : ∃ z, z = Lib.compareInt a3 b3 := ⟨_, rfl⟩
  obtain ⟨p, hp⟩ : ∃ p, p = preC a4.data.toList b4.data.toList := ⟨_, rfl⟩
  obtain ⟨o, ho⟩ : ∃ o, o = or3 x y z := ⟨_, rfl⟩
  have HR : Hid (R = if o = 0 then p else o) := by
    show R = if o = 0 then p else o
    rw [hR, verC_or, ho, hx, hy, hz, hp]
  have C1 : Hid (∀ w, Calls Tryz.prog 36 #[.int .i64 a1, .int .i64 b1] w fun e w' => e = .returned (.int .i64 x) ∧ w' = w) := fun w => by rw [hx]; exact cmpInt_any _ _ w
  have C2 : Hid (∀ w, Calls Tryz.prog 36 #[.int .i64 a2, .int .i64 b2] w fun e w' => e = .returned (.int .i64 y) ∧ w' = w) := fun w => by rw [hy]; exact cmpInt_any _ _ w
  have C3 : Hid (∀ w, Calls Tryz.prog 36 #[.int .i64 a3, .int .i64 b3] w fun e w' => e = .returned (.int .i64 z) ∧ w' = w) := fun w => by rw [hz]; exact cmpInt_any _ _ w
  have CP : Hid (∀ w, Calls Tryz.prog 37 #[.string a4, .string b4] w fun e w' => e = .returned (.int .i64 p) ∧ Gr w w') := fun w => by rw [hp]; exact pre_any a4 b4 w hs hs'
  have CO : Hid (∀ (b : Nat) (w : World), w.cell? ⟨b, 0, none⟩ = some (.int .i64 x) → w.cell? ⟨b, 1, none⟩ = some (.int .i64 y) → w.cell? ⟨b, 2, none⟩ = some (.int .i64 z) → Calls Tryz.prog 35 #[.slice (some ⟨b, 0, none⟩) 3 3] w fun e w' => e = .returned (.int .i64 o) ∧ w' = w) := fun b w h0 h1 h2 => by rw [ho]; exact or_any x y z b w h0 h1 h2
  rw [← hR]
  clear hR hx hy hz hp ho hs hs'
  go_enter Tryz.func25, Tryz.ntmps25
  go_wp2
  obtain ⟨W, hW⟩ : ∃ W, (w.alloc (.cells #[.int .i64 a1, .int .i64 a2, .int .i64 a3, .string a4, .string a5] 29)).alloc (.cells #[.int .i64 b1, .int .i64 b2, .int .i64 b3, .string b4, .string b5] 29) = W := ⟨_, rfl⟩
  rw [hW]
  have g1 : W.heap[w.heap.size]? = some (.cells #[.int .i64 a1, .int .i64 a2, .int .i64 a3, .string a4, .string a5] 29 (0, 0)) := by
    rw [← hW, Lib.alloc_old _ _ _ (by simp)]
    exact heap_alloc_new w _
  have g2 : W.heap[w.heap.size + 1]? = some (.cells #[.int .i64 b1, .int .i64 b2, .int .i64 b3, .string b4, .string b5] 29 (0, 0)) := by
    rw [← hW]
    have := heap_alloc_new (w.alloc (.cells #[.int .i64 a1, .int .i64 a2, .int .i64 a3, .string a4, .string a5] 29)) (.cells #[.int .i64 b1, .int .i64 b2, .int .i64 b3, .string b4, .string b5] 29)
    rw [show (w.alloc (.cells #[.int .i64 a1, .int .i64 a2, .int .i64 a3, .string a4, .string a5] 29)).heap.size = w.heap.size + 1 by simp] at this
    exact this
  have HGW : Hid (Gr w W) := by
    show Gr w W
    rw [← hW]
    exact ⟨⟨rfl, rfl, rfl, by simp; omega, fun k hk _ => by rw [Lib.alloc_old _ _ _ (by simp; omega), Lib.alloc_old _ _ _ hk]⟩, Nat.le_refl _⟩
  have HSZ : Hid (W.heap.size = w.heap.size + 2) := by
    show W.heap.size = w.heap.size + 2
    rw [← hW]; simp
  obtain ⟨A, hA⟩ : ∃ A, w.heap.size = A := ⟨_, rfl⟩
  rw [hA] at g1 g2
  rw [hA]
  have HA : Hid (W.heap.size = A + 2) := by
    show W.heap.size = A + 2
    rw [← hA]; exact HSZ.out
  have c0 : W.cell? ⟨A, 0, none⟩ = some (.int .i64 a1) := by rw [Lib.cell_of_heap g1]; rfl
  have c1 : W.cell? ⟨A, 1, none⟩ = some (.int .i64 a2) := by rw [Lib.cell_of_heap g1]; rfl
  have c2 : W.cell? ⟨A, 2, none⟩ = some (.int .i64 a3) := by rw [Lib.cell_of_heap g1]; rfl
  have c3 : Hid (W.cell? ⟨A, 3, none⟩ = some (.string a4)) := by show W.cell? _ = _; rw [Lib.cell_of_heap g1]; rfl
  have d0 : W.cell? ⟨A + 1, 0, none⟩ = some (.int .i64 b1) := by rw [Lib.cell_of_heap g2]; rfl
  have d1 : W.cell? ⟨A + 1, 1, none⟩ = some (.int .i64 b2) := by rw [Lib.cell_of_heap g2]; rfl
  have d2 : W.cell? ⟨A + 1, 2, none⟩ = some (.int .i64 b3) := by rw [Lib.cell_of_heap g2]; rfl
  have d3 : Hid (W.cell? ⟨A + 1, 3, none⟩ = some (.string b4)) := by show W.cell? _ = _; rw [Lib.cell_of_heap g2]; rfl
  clear hW hA HSZ g1 g2
  go_region_held3 (fun w' => w'.cell? ⟨A, 0, none⟩ = some (.int .i64 a1) ∧ w'.cell? ⟨A, 1, none⟩ = some (.int .i64 a2) ∧ w'.cell? ⟨A, 2, none⟩ = some (.int .i64 a3) ∧ w'.cell? ⟨A + 1, 0, none⟩ = some (.int .i64 b1) ∧ w'.cell? ⟨A + 1, 1, none⟩ = some (.int .i64 b2) ∧ w'.cell? ⟨A + 1, 2, none⟩ = some (.int .i64 b3)) (go_keep) (first | (go_at_call_of 36 (Value.int .i64 a1); refine (C1.out _).mono ?_; rintro e w' ⟨rfl, rfl⟩) | (go_at_call_of 36 (Value.int .i64 a2); refine (C2.out _).mono ?_; rintro e w' ⟨rfl, rfl⟩) | (go_at_call_of 36 (Value.int .i64 a3); refine (C3.out _).mono ?_; rintro e w' ⟨rfl, rfl⟩) | (go_at_call 35; refine (CO.out _ _ (by simp) (by simp) (by simp)).mono ?_; rintro e w' ⟨rfl, rfl⟩))
  obtain ⟨W2, hW2⟩ : ∃ W2, (W.alloc (.cells #[.int .i64 x, .int .i64 y, .int .i64 z] 3)).drew = W2 := ⟨_, rfl⟩
  rw [hW2]
  have hlt : A < W.heap.size ∧ A + 1 < W.heap.size := by have := HA.out; omega
  have e3 : W2.cell? ⟨A, 3, none⟩ = some (.string a4) := by
    rw [← hW2]
    exact (World.cell?_of_block (show ((W.alloc _).drew).heap[A]? = W.heap[A]? from Lib.alloc_old W _ A hlt.1)).trans c3.out
  have f3 : W2.cell? ⟨A + 1, 3, none⟩ = some (.string b4) := by
    rw [← hW2]
    exact (World.cell?_of_block (show ((W.alloc _).drew).heap[A + 1]? = W.heap[A + 1]? from Lib.alloc_old W _ (A + 1) hlt.2)).trans d3.out
  have HG2 : Hid (Gr w W2) := by
    show Gr w W2
    rw [← hW2]
    have h1 : Gr W ((W.alloc (.cells #[.int .i64 x, .int .i64 y, .int .i64 z] 3)).drew) := ⟨⟨rfl, rfl, rfl, by simp, fun k hk _ => Lib.alloc_old W _ k hk⟩, Nat.le_succ _⟩
    exact gr_trans HGW.out h1
  clear hW2 hlt c0 c1 c2 c3 d0 d1 d2 d3 HA HGW C1 C2 C3 CO
  cases hz : (o == 0) with
  | false =>
    have HZ : Hid (R = o) := by show R = o; rw [HR.out, if_neg (by simpa using hz)]
    go_wp2
    go_ret
    exact ⟨ret_int HZ.out.symm, HG2.out⟩
  | true =>
    have HZ : Hid (R = p) := by show R = p; rw [HR.out, if_pos (by simpa using hz)]
    go_wp2_with (first | (go_at_call 37; refine (CP.out _).mono ?_; rintro e w4 ⟨rfl, hg4⟩))
    go_ret
    exact ⟨ret_int HZ.out.symm, gr_trans HG2.out hg4⟩
end Go.Proofs.YtenomeopkncaaaaGreatDoor.G

/-
  How edges are compared, walked.
-/
namespace Go.Proofs.YtenomeopkncaaaaGreatDoor
open Go.RowKit
set_option linter.unusedVariables false

set_option maxRecDepth 100000 in
set_option maxHeartbeats 800000 in
theorem cmpE_any (x y : Er) (w : World) (hx : x.a4.size ≤ 1048576) (hy : y.a4.size ≤ 1048576) :
    Calls Tryz.prog 34 #[.agg (erC x).toArray, .agg (erC y).toArray] w fun e w' => e = .returned (.int .i64 (verC (toEd x).at_ (toEd y).at_)) ∧ Gr w w' := by
  obtain ⟨a1, a2, a3, a4, a5, l, d⟩ := x
  obtain ⟨b1, b2, b3, b4, b5, m, c⟩ := y
  obtain ⟨r, hr⟩ : ∃ r, verC (toEd ⟨a1, a2, a3, a4, a5, l, d⟩).at_ (toEd ⟨b1, b2, b3, b4, b5, m, c⟩).at_ = r := ⟨_, rfl⟩
  have CC : Hid (∀ w, Calls Tryz.prog 25 #[.agg #[.int .i64 a1, .int .i64 a2, .int .i64 a3, .string a4, .string a5], .agg #[.int .i64 b1, .int .i64 b2, .int .i64 b3, .string b4, .string b5]] w fun e w' => e = .returned (.int .i64 r) ∧ Gr w w') := fun w => by
    rw [← hr]; exact G.compare_any a1 a2 a3 b1 b2 b3 a4 a5 b4 b5 w (by simp at hx; omega) (by simp at hy; omega)
  rw [hr]
  clear hr hx hy
  show Calls Tryz.prog 34 #[.agg #[.int .i64 a1, .int .i64 a2, .int .i64 a3, .string a4, .string a5, .int .i64 l, .int .i64 d], .agg #[.int .i64 b1, .int .i64 b2, .int .i64 b3, .string b4, .string b5, .int .i64 m, .int .i64 c]] w _
  go_enter Tryz.func34, Tryz.ntmps34
  go_wp2_with (first | (go_at_call 25; refine (CC.out _).mono ?_))
  rintro e w1 ⟨rfl, hg⟩
  go_wp2
  go_ret
  exact ⟨rfl, gr_trans (gr_alloc (gr_alloc (gr_refl w) _) _) hg⟩
end Go.Proofs.YtenomeopkncaaaaGreatDoor

namespace Go.Proofs
open Go.Shelf
def Tryz.laysSort_ren : Go.Shelf.Ren := ⟨fun | 6 => 33 | 14 => 44 | 15 => 45 | 20 => 55 | 21 => 56 | 22 => 57 | 23 => 58 | 24 => 59 | 25 => 60 | 26 => 61 | 27 => 62 | 28 => 63 | 29 => 64 | 46 => 73 | 47 => 74 | 48 => 75 | 49 => 76 | 50 => 77 | 57 => 87 | n => n, fun | 22 => 55 | 23 => 70 | 24 => 58 | 25 => 71 | 27 => 54 | 29 => 73 | 37 => 84 | 38 => 85 | 39 => 86 | 42 => 64 | 44 => 97 | 45 => 98 | 46 => 99 | 47 => 100 | 48 => 101 | 49 => 102 | 50 => 103 | 51 => 104 | 52 => 105 | 53 => 106 | 54 => 107 | 55 => 108 | 66 => 116 | 67 => 117 | 68 => 118 | 69 => 119 | 70 => 60 | 71 => 120 | 76 => 128 | 77 => 129 | 78 => 130 | 81 => 145 | 82 => 146 | 83 => 147 | 84 => 148 | 85 => 149 | 86 => 150 | 87 => 151 | 88 => 152 | 89 => 153 | 90 => 154 | 91 => 113 | 92 => 155 | 93 => 156 | 94 => 157 | 95 => 158 | 96 => 165 | n => n, fun n => n⟩
set_option maxRecDepth 100000 in
theorem Tryz.laysSort : Go.Proofs.SlLaysF0.n6 Tryz.prog Tryz.laysSort_ren := {
  mixed := by kernel_rfl
  f6 := ⟨"slices.SortFunc[[]pantry/span.edge,pantry/span.edge]", by decide, Tryz.func33.trans (congrArg some (by kernel_rfl))⟩
  f14 := ⟨"slices.pdqsortCmpFunc[pantry/span.edge]", by decide, Tryz.func44.trans (congrArg some (by kernel_rfl))⟩
  f15 := Tryz.func45.trans (congrArg some (by kernel_rfl))
  f20 := ⟨"slices.insertionSortCmpFunc[pantry/span.edge]", by decide, Tryz.func55.trans (congrArg some (by kernel_rfl))⟩
  f21 := ⟨"slices.heapSortCmpFunc[pantry/span.edge]", by decide, Tryz.func56.trans (congrArg some (by kernel_rfl))⟩
  f22 := ⟨"slices.breakPatternsCmpFunc[pantry/span.edge]", by decide, Tryz.func57.trans (congrArg some (by kernel_rfl))⟩
  f23 := ⟨"slices.choosePivotCmpFunc[pantry/span.edge]", by decide, Tryz.func58.trans (congrArg some (by kernel_rfl))⟩
  f24 := ⟨"slices.reverseRangeCmpFunc[pantry/span.edge]", by decide, Tryz.func59.trans (congrArg some (by kernel_rfl))⟩
  f25 := ⟨"slices.partialInsertionSortCmpFunc[pantry/span.edge]", by decide, Tryz.func60.trans (congrArg some (by kernel_rfl))⟩
  f26 := ⟨"slices.partitionEqualCmpFunc[pantry/span.edge]", by decide, Tryz.func61.trans (congrArg some (by kernel_rfl))⟩
  f27 := ⟨"slices.partitionCmpFunc[pantry/span.edge]", by decide, Tryz.func62.trans (congrArg some (by kernel_rfl))⟩
  f28 := Tryz.func63.trans (congrArg some (by kernel_rfl))
  f29 := Tryz.func64.trans (congrArg some (by kernel_rfl))
  f46 := ⟨"slices.siftDownCmpFunc[pantry/span.edge]", by decide, Tryz.func73.trans (congrArg some (by kernel_rfl))⟩
  f47 := Tryz.func74.trans (congrArg some (by kernel_rfl))
  f48 := Tryz.func75.trans (congrArg some (by kernel_rfl))
  f49 := ⟨"slices.medianAdjacentCmpFunc[pantry/span.edge]", by decide, Tryz.func76.trans (congrArg some (by kernel_rfl))⟩
  f50 := ⟨"slices.medianCmpFunc[pantry/span.edge]", by decide, Tryz.func77.trans (congrArg some (by kernel_rfl))⟩
  f57 := ⟨"slices.order2CmpFunc[pantry/span.edge]", by decide, Tryz.func87.trans (congrArg some (by kernel_rfl))⟩
  t0 := Tryz.underlying0
  a0 := Tryz.isAgg0
  z0 := Tryz.sizeOf0
  v0 := Tryz.zeroValue0
  t3 := Tryz.underlying3
  a3 := Tryz.isAgg3
  z3 := Tryz.sizeOf3
  v3 := Tryz.zeroValue3
  t4 := Tryz.underlying4
  a4 := Tryz.isAgg4
  z4 := Tryz.sizeOf4
  v4 := Tryz.zeroValue4
  t5 := Tryz.underlying5
  a5 := Tryz.isAgg5
  z5 := Tryz.sizeOf5
  v5 := Tryz.zeroValue5
  t9 := Tryz.underlying9
  a9 := Tryz.isAgg9
  z9 := Tryz.sizeOf9
  v9 := Tryz.zeroValue9
  t22 := Tryz.underlying55
  a22 := Tryz.isAgg55
  z22 := Tryz.sizeOf55
  v22 := Tryz.zeroValue55
  t25 := Tryz.underlying71
  a25 := Tryz.isAgg71
  z25 := Tryz.sizeOf71
  v25 := Tryz.zeroValue71
  t39 := Tryz.underlying86
  a39 := Tryz.isAgg86
  z39 := Tryz.sizeOf86
  v39 := Tryz.zeroValue86
  t45 := Tryz.underlying98
  a45 := Tryz.isAgg98
  z45 := Tryz.sizeOf98
  v45 := Tryz.zeroValue98
  t46 := Tryz.underlying99
  a46 := Tryz.isAgg99
  z46 := Tryz.sizeOf99
  v46 := Tryz.zeroValue99
  t50 := Tryz.underlying103
  a50 := Tryz.isAgg103
  z50 := Tryz.sizeOf103
  v50 := Tryz.zeroValue103
  t53 := Tryz.underlying106
  a53 := Tryz.isAgg106
  z53 := Tryz.sizeOf106
  v53 := Tryz.zeroValue106
  t55 := Tryz.underlying108
  a55 := Tryz.isAgg108
  z55 := Tryz.sizeOf108
  v55 := Tryz.zeroValue108
  t66 := Tryz.underlying116
  a66 := Tryz.isAgg116
  z66 := Tryz.sizeOf116
  v66 := Tryz.zeroValue116
  t70 := Tryz.underlying60
  a70 := Tryz.isAgg60
  z70 := Tryz.sizeOf60
  v70 := Tryz.zeroValue60
  t76 := Tryz.underlying128
  a76 := Tryz.isAgg128
  z76 := Tryz.sizeOf128
  v76 := Tryz.zeroValue128
  t77 := Tryz.underlying129
  a77 := Tryz.isAgg129
  z77 := Tryz.sizeOf129
  v77 := Tryz.zeroValue129 }
end Go.Proofs
