import Derived.Test.YtegapdmbpkfpmaaGreatDoorM15
import Derived.Below
import Derived.Deep.RegionHeld3
import Derived.Test.YtegapdmbpkfpmaaGreatDoorM12
import Derived.Shelf.SlSortCmp.NoneTotal
import Derived.Test.YtegapdmbpkfpmaaGreatDoorProg
/-
  Compare, walked.
-/
namespace Go.Proofs.YtegapdmbpkfpmaaGreatDoor.G
open Go.RowKit
set_option linter.unusedVariables false

def or3 (x y z : Int) : Int := if x = 0 then (if y = 0 then z else y) else x
set_option maxHeartbeats 400000 in
theorem or_any (x y z : Int) (b : Nat) (w : World) (h0 : w.cell? ⟨b, 0, none⟩ = some (.int .i64 x)) (h1 : w.cell? ⟨b, 1, none⟩ = some (.int .i64 y)) (h2 : w.cell? ⟨b, 2, none⟩ = some (.int .i64 z)) :
    Calls Tryz.prog 74 #[.slice (some ⟨b, 0, none⟩) 3 3] w fun e w' => e = .returned (.int .i64 (or3 x y z)) ∧ w' = w := by
  obtain ⟨R, hR⟩ : ∃ R, R = or3 x y z := ⟨_, rfl⟩
  have HR : Hid (R = or3 x y z) := hR
  rw [← hR]
  clear hR
  go_enter Tryz.func74, Tryz.ntmps74
  go_wp2
  go_loop [8] (fun i => ∃ k : Nat, k ≤ 3 ∧ i = .int .i64 k ∧ (1 ≤ k → x = 0) ∧ (2 ≤ k → y = 0) ∧ (3 ≤ k → z = 0)) (fun i => 3 - (intOf i).toNat)
  case atStart => exact ⟨0, by omega, rfl, by omega, by omega, by omega⟩
  case round =>
    obtain ⟨k, hk, rfl, k1, k2, k3⟩ := hrel
    rcases (show k = 0 ∨ k = 1 ∨ k = 2 ∨ k = 3 by omega) with rfl | rfl | rfl | rfl
    · clear k1 k2 k3 hk
      cases hz : (x == 0) with
      | true =>
        have hx : x = 0 := by simpa using hz
        go_wp2
        go_round
        case rel => exact ⟨1, by omega, rfl, fun _ => hx, by omega, by omega⟩
        case measure => simp [intOf]
      | false =>
        have HZ : Hid (R = x) := by show R = x; rw [HR.out]; unfold or3; rw [if_neg (by simpa using hz)]
        go_wp2
        go_ret
        exact ⟨ret_int HZ.out.symm, rfl⟩
    · have hx : Hid (x = 0) := k1 (by omega)
      clear k1 k2 k3 hk
      cases hz : (y == 0) with
      | true =>
        have hy : y = 0 := by simpa using hz
        go_wp2
        go_round
        case rel => exact ⟨2, by omega, rfl, fun _ => hx.out, fun _ => hy, by omega⟩
        case measure => simp [intOf]
      | false =>
        have HZ : Hid (R = y) := by show R = y; rw [HR.out]; unfold or3; rw [if_pos hx.out, if_neg (by simpa using hz)]
        go_wp2
        go_ret
        exact ⟨ret_int HZ.out.symm, rfl⟩
    · have hx : Hid (x = 0) := k1 (by omega)
      have hy : Hid (y = 0) := k2 (by omega)
      clear k1 k2 k3 hk
      have HZ : Hid (R = z) := by show R = z; rw [HR.out]; unfold or3; rw [if_pos hx.out, if_pos hy.out]
      cases hz : (z == 0) with
      | true =>
        have hy' : z = 0 := by simpa using hz
        go_wp2
        go_round
        case rel => exact ⟨3, by omega, rfl, fun _ => hx.out, fun _ => hy.out, fun _ => hy'⟩
        case measure => simp [intOf]
      | false =>
        go_wp2
        go_ret
        exact ⟨ret_int HZ.out.symm, rfl⟩
    · have HZ : Hid (R = 0) := by show R = 0; rw [HR.out]; unfold or3; rw [if_pos (k1 (by omega)), if_pos (k2 (by omega)), k3 (by omega)]
      clear k1 k2 k3 hk
      go_wp2
      go_ret
      exact ⟨ret_int HZ.out.symm, rfl⟩

theorem verC_or (a b : V) : verC a b = if or3 (Lib.compareInt a.major b.major) (Lib.compareInt a.minor b.minor) (Lib.compareInt a.patch b.patch) = 0 then preC a.pre b.pre else or3 (Lib.compareInt a.major b.major) (Lib.compareInt a.minor b.minor) (Lib.compareInt a.patch b.patch) := by
  rw [verC_eq]; unfold or3
  repeat' split
  all_goals first | rfl | (exfalso; omega) | omega

set_option maxHeartbeats 800000 in
theorem compare_any (a1 a2 a3 b1 b2 b3 : Int) (a4 a5 b4 b5 : ByteArray) (w : World) (hs : a4.size < 2 ^ 62) (hs' : b4.size < 2 ^ 62) :
    Calls Tryz.prog 44 #[.agg #[.int .i64 a1, .int .i64 a2, .int .i64 a3, .string a4, .string a5], .agg #[.int .i64 b1, .int .i64 b2, .int .i64 b3, .string b4, .string b5]] w fun e w' => e = .returned (.int .i64 (verC ⟨a1, a2, a3, a4.data.toList⟩ ⟨b1, b2, b3, b4.data.toList⟩)) ∧ Gr w w' := by
  obtain ⟨R, hR⟩ : ∃ R, R = verC ⟨a1, a2, a3, a4.data.toList⟩ ⟨b1, b2, b3, b4.data.toList⟩ := ⟨_, rfl⟩
  obtain ⟨x, hx⟩ : ∃ x, x = Lib.compareInt a1 b1 := ⟨_, rfl⟩
  obtain ⟨y, hy⟩ : ∃ y, y = Lib.compareInt a2 b2 := ⟨_, rfl⟩
  obtain ⟨z, hz⟩ : ∃ z, z = Lib.compareInt a3 b3 := ⟨_, rfl⟩
  obtain ⟨p, hp⟩ : ∃ p, p = preC a4.data.toList b4.data.toList := ⟨_, rfl⟩
  obtain ⟨o, ho⟩ : ∃ o, o = or3 x y z := ⟨_, rfl⟩
  have HR : Hid (R = if o = 0 then p else o) := by
    show R = if o = 0 then p else o
    rw [hR, verC_or, ho, hx, hy, hz, hp]
  have C1 : Hid (∀ w, Calls Tryz.prog 75 #[.int .i64 a1, .int .i64 b1] w fun e w' => e = .returned (.int .i64 x) ∧ w' = w) := fun w => by rw [hx]; exact cmpInt_any _ _ w
  have C2 : Hid (∀ w, Calls Tryz.prog 75 #[.int .i64 a2, .int .i64 b2] w fun e w' => e = .returned (.int .i64 y) ∧ w' = w) := fun w => by rw [hy]; exact cmpInt_any _ _ w
  have C3 : Hid (∀ w, Calls Tryz.prog 75 #[.int .i64 a3, .int .i64 b3] w fun e w' => e = .returned (.int .i64 z) ∧ w' = w) := fun w => by rw [hz]; exact cmpInt_any _ _ w
  have CP : Hid (∀ w, Calls Tryz.prog 76 #[.string a4, .string b4] w fun e w' => e = .returned (.int .i64 p) ∧ Gr w w') := fun w => by rw [hp]; exact pre_any a4 b4 w hs hs'
  have CO : Hid (∀ (b : Nat) (w : World), w.cell? ⟨b, 0, none⟩ = some (.int .i64 x) → w.cell? ⟨b, 1, none⟩ = some (.int .i64 y) → w.cell? ⟨b, 2, none⟩ = some (.int .i64 z) → Calls Tryz.prog 74 #[.slice (some ⟨b, 0, none⟩) 3 3] w fun e w' => e = .returned (.int .i64 o) ∧ w' = w) := fun b w h0 h1 h2 => by rw [ho]; exact or_any x y z b w h0 h1 h2
  rw [← hR]
  clear hR hx hy hz hp ho hs hs'
  go_enter Tryz.func44, Tryz.ntmps44
  go_wp2
  obtain ⟨W, hW⟩ : ∃ W, (w.alloc (.cells #[.int .i64 a1, .int .i64 a2, .int .i64 a3, .string a4, .string a5] 35)).alloc (.cells #[.int .i64 b1, .int .i64 b2, .int .i64 b3, .string b4, .string b5] 35) = W := ⟨_, rfl⟩
  rw [hW]
  have g1 : W.heap[w.heap.size]? = some (.cells #[.int .i64 a1, .int .i64 a2, .int .i64 a3, .string a4, .string a5] 35 (0, 0)) := by
    rw [← hW, Lib.alloc_old _ _ _ (by simp)]
    exact heap_alloc_new w _
  have g2 : W.heap[w.heap.size + 1]? = some (.cells #[.int .i64 b1, .int .i64 b2, .int .i64 b3, .string b4, .string b5] 35 (0, 0)) := by
    rw [← hW]
    have := heap_alloc_new (w.alloc (.cells #[.int .i64 a1, .int .i64 a2, .int .i64 a3, .string a4, .string a5] 35)) (.cells #[.int .i64 b1, .int .i64 b2, .int .i64 b3, .string b4, .string b5] 35)
    rw [show (w.alloc (.cells #[.int .i64 a1, .int .i64 a2, .int .i64 a3, .string a4, .string a5] 35)).heap.size = w.heap.size + 1 by simp] at this
    exact this
  have HGW : Hid (Gr w W) := by
    show Gr w W
    rw [← hW]
    exact ⟨⟨rfl, rfl, rfl, by simp; omega, fun k hk _ => by rw [Lib.alloc_old _ _ _ (by simp; omega), Lib.alloc_old _ _ _ hk]⟩, Nat.le_refl _⟩
  have HSZ : Hid (W.heap.size = w.heap.size + 2) := by
    show W.heap.size = w.heap.size + 2
    rw [← hW]; simp
  obtain ⟨A, hA⟩ : ∃ A, w.heap.size = A := ⟨_, rfl⟩
  rw [hA] at g1 g2
  rw [hA]
  have HA : Hid (W.heap.size = A + 2) := by
    show W.heap.size = A + 2
    rw [← hA]; exact HSZ.out
  have c0 : W.cell? ⟨A, 0, none⟩ = some (.int .i64 a1) := by rw [Lib.cell_of_heap g1]; rfl
  have c1 : W.cell? ⟨A, 1, none⟩ = some (.int .i64 a2) := by rw [Lib.cell_of_heap g1]; rfl
  have c2 : W.cell? ⟨A, 2, none⟩ = some (.int .i64 a3) := by rw [Lib.cell_of_heap g1]; rfl
  have c3 : Hid (W.cell? ⟨A, 3, none⟩ = some (.string a4)) := by show W.cell? _ = _; rw [Lib.cell_of_heap g1]; rfl
  have d0 : W.cell? ⟨A + 1, 0, none⟩ = some (.int .i64 b1) := by rw [Lib.cell_of_heap g2]; rfl
  have d1 : W.cell? ⟨A + 1, 1, none⟩ = some (.int .i64 b2) := by rw [Lib.cell_of_heap g2]; rfl
  have d2 : W.cell? ⟨A + 1, 2, none⟩ = some (.int .i64 b3) := by rw [Lib.cell_of_heap g2]; rfl
  have d3 : Hid (W.cell? ⟨A + 1, 3, none⟩ = some (.string b4)) := by show W.cell? _ = _; rw [Lib.cell_of_heap g2]; rfl
  clear hW hA HSZ g1 g2
  go_region_held3 (fun w' => w'.cell? ⟨A, 0, none⟩ = some (.int .i64 a1) ∧ w'.cell? ⟨A, 1, none⟩ = some (.int .i64 a2) ∧ w'.cell? ⟨A, 2, none⟩ = some (.int .i64 a3) ∧ w'.cell? ⟨A + 1, 0, none⟩ = some (.int .i64 b1) ∧ w'.cell? ⟨A + 1, 1, none⟩ = some (.int .i64 b2) ∧ w'.cell? ⟨A + 1, 2, none⟩ = some (.int .i64 b3)) (go_keep) (first | (go_at_call_of 75 (Value.int .i64 a1); refine (C1.out _).mono ?_; rintro e w' ⟨rfl, rfl⟩) | (go_at_call_of 75 (Value.int .i64 a2); refine (C2.out _).mono ?_; rintro e w' ⟨rfl, rfl⟩) | (go_at_call_of 75 (Value.int .i64 a3); refine (C3.out _).mono ?_; rintro e w' ⟨rfl, rfl⟩) | (go_at_call 74; refine (CO.out _ _ (by simp) (by simp) (by simp)).mono ?_; rintro e w' ⟨rfl, rfl⟩))
  obtain ⟨W2, hW2⟩ : ∃ W2, (W.alloc (.cells #[.int .i64 x, .int .i64 y, .int .i64 z] 3)).drew = W2 := ⟨_, rfl⟩
  rw [hW2]
  have hlt : A < W.heap.size ∧ A + 1 < W.heap.size := by have := HA.out; omega
  have e3 : W2.cell? ⟨A, 3, none⟩ = some (.string a4) := by
    rw [← hW2]
    exact (World.cell?_of_block (show ((W.alloc _).drew).heap[A]? = W.heap[A]? from Lib.alloc_old W _ A hlt.1)).trans c3.out
  have f3 : W2.cell? ⟨A + 1, 3, none⟩ = some (.string b4) := by
    rw [← hW2]
    exact (World.cell?_of_block (show ((W.alloc _).drew).heap[A + 1]? = W.heap[A + 1]? from Lib.alloc_old W _ (A + 1) hlt.2)).trans d3.out
  have HG2 : Hid (Gr w W2) := by
    show Gr w W2
    rw [← hW2]
    have h1 : Gr W ((W.alloc (.cells #[.int .i64 x, .int .i64 y, .int .i64 z] 3)).drew) := ⟨⟨rfl, rfl, rfl, by simp, fun k hk _ => Lib.alloc_old W _ k hk⟩, Nat.le_succ _⟩
    exact gr_trans HGW.out h1
  clear hW2 hlt c0 c1 c2 c3 d0 d1 d2 d3 HA HGW C1 C2 C3 CO
  cases hz : (o == 0) with
  | false =>
    have HZ : Hid (R = o) := by show R = o; rw [HR.out, if_neg (by simpa using hz)]
    go_wp2
    go_ret
    exact ⟨ret_int HZ.out.symm, HG2.out⟩
  | true =>
    have HZ : Hid (R = p) := by show R = p; rw [HR.out, if_pos (by simpa using hz)]
    go_wp2_with (first | (go_at_call 76; refine (CP.out _).mono ?_; rintro e w4 ⟨rfl, hg4⟩))
    go_ret
    exact ⟨ret_int HZ.out.symm, gr_trans HG2.out hg4⟩
end Go.Proofs.YtegapdmbpkfpmaaGreatDoor.G

/-
  How edges are compared, walked.
-/
namespace Go.Proofs.YtegapdmbpkfpmaaGreatDoor
open Go.RowKit
set_option linter.unusedVariables false

set_option maxRecDepth 100000 in
set_option maxHeartbeats 800000 in
theorem cmpE_any (x y : Er) (w : World) (hx : x.a4.size ≤ 1048576) (hy : y.a4.size ≤ 1048576) :
    Calls Tryz.prog 104 #[.agg (erC x).toArray, .agg (erC y).toArray] w fun e w' => e = .returned (.int .i64 (verC (toEd x).at_ (toEd y).at_)) ∧ Gr w w' := by
  obtain ⟨a1, a2, a3, a4, a5, l, d⟩ := x
  obtain ⟨b1, b2, b3, b4, b5, m, c⟩ := y
  obtain ⟨r, hr⟩ : ∃ r, verC (toEd ⟨a1, a2, a3, a4, a5, l, d⟩).at_ (toEd ⟨b1, b2, b3, b4, b5, m, c⟩).at_ = r := ⟨_, rfl⟩
  have CC : Hid (∀ w, Calls Tryz.prog 44 #[.agg #[.int .i64 a1, .int .i64 a2, .int .i64 a3, .string a4, .string a5], .agg #[.int .i64 b1, .int .i64 b2, .int .i64 b3, .string b4, .string b5]] w fun e w' => e = .returned (.int .i64 r) ∧ Gr w w') := fun w => by
    rw [← hr]; exact G.compare_any a1 a2 a3 b1 b2 b3 a4 a5 b4 b5 w (by simp at hx; omega) (by simp at hy; omega)
  rw [hr]
  clear hr hx hy
  show Calls Tryz.prog 104 #[.agg #[.int .i64 a1, .int .i64 a2, .int .i64 a3, .string a4, .string a5, .int .i64 l, .int .i64 d], .agg #[.int .i64 b1, .int .i64 b2, .int .i64 b3, .string b4, .string b5, .int .i64 m, .int .i64 c]] w _
  go_enter Tryz.func104, Tryz.ntmps104
  go_wp2_with (first | (go_at_call 44; refine (CC.out _).mono ?_))
  rintro e w1 ⟨rfl, hg⟩
  go_wp2
  go_ret
  exact ⟨rfl, gr_trans (gr_alloc (gr_alloc (gr_refl w) _) _) hg⟩
end Go.Proofs.YtegapdmbpkfpmaaGreatDoor

namespace Go.Proofs
open Go.Shelf
def Tryz.laysSort_ren : Go.Shelf.Ren := ⟨fun | 6 => 103 | 14 => 119 | 15 => 120 | 20 => 148 | 21 => 149 | 22 => 150 | 23 => 151 | 24 => 152 | 25 => 153 | 26 => 154 | 27 => 155 | 28 => 156 | 29 => 157 | 46 => 172 | 47 => 173 | 48 => 174 | 49 => 175 | 50 => 176 | 57 => 183 | n => n, fun | 22 => 132 | 23 => 161 | 24 => 135 | 25 => 162 | 27 => 131 | 29 => 117 | 37 => 176 | 38 => 177 | 39 => 178 | 42 => 55 | 44 => 201 | 45 => 202 | 46 => 203 | 47 => 204 | 48 => 205 | 49 => 206 | 50 => 207 | 51 => 208 | 52 => 209 | 53 => 210 | 54 => 197 | 55 => 196 | 66 => 221 | 67 => 222 | 68 => 223 | 69 => 224 | 70 => 137 | 71 => 225 | 76 => 229 | 77 => 230 | 78 => 231 | 81 => 128 | 82 => 239 | 83 => 240 | 84 => 241 | 85 => 242 | 86 => 243 | 87 => 99 | 88 => 244 | 89 => 245 | 90 => 246 | 91 => 160 | 92 => 247 | 93 => 248 | 94 => 249 | 95 => 250 | 96 => 173 | n => n, fun n => n⟩
set_option maxRecDepth 100000 in
theorem Tryz.laysSort : Go.Proofs.SlLaysF0.n6 Tryz.prog Tryz.laysSort_ren := {
  mixed := by kernel_rfl
  f6 := ⟨"slices.SortFunc[[]pantry/span.edge,pantry/span.edge]", by decide, Tryz.func103.trans (congrArg some (by kernel_rfl))⟩
  f14 := ⟨"slices.pdqsortCmpFunc[pantry/span.edge]", by decide, Tryz.func119.trans (congrArg some (by kernel_rfl))⟩
  f15 := Tryz.func120.trans (congrArg some (by kernel_rfl))
  f20 := ⟨"slices.insertionSortCmpFunc[pantry/span.edge]", by decide, Tryz.func148.trans (congrArg some (by kernel_rfl))⟩
  f21 := ⟨"slices.heapSortCmpFunc[pantry/span.edge]", by decide, Tryz.func149.trans (congrArg some (by kernel_rfl))⟩
  f22 := ⟨"slices.breakPatternsCmpFunc[pantry/span.edge]", by decide, Tryz.func150.trans (congrArg some (by kernel_rfl))⟩
  f23 := ⟨"slices.choosePivotCmpFunc[pantry/span.edge]", by decide, Tryz.func151.trans (congrArg some (by kernel_rfl))⟩
  f24 := ⟨"slices.reverseRangeCmpFunc[pantry/span.edge]", by decide, Tryz.func152.trans (congrArg some (by kernel_rfl))⟩
  f25 := ⟨"slices.partialInsertionSortCmpFunc[pantry/span.edge]", by decide, Tryz.func153.trans (congrArg some (by kernel_rfl))⟩
  f26 := ⟨"slices.partitionEqualCmpFunc[pantry/span.edge]", by decide, Tryz.func154.trans (congrArg some (by kernel_rfl))⟩
  f27 := ⟨"slices.partitionCmpFunc[pantry/span.edge]", by decide, Tryz.func155.trans (congrArg some (by kernel_rfl))⟩
  f28 := Tryz.func156.trans (congrArg some (by kernel_rfl))
  f29 := Tryz.func157.trans (congrArg some (by kernel_rfl))
  f46 := ⟨"slices.siftDownCmpFunc[pantry/span.edge]", by decide, Tryz.func172.trans (congrArg some (by kernel_rfl))⟩
  f47 := Tryz.func173.trans (congrArg some (by kernel_rfl))
  f48 := Tryz.func174.trans (congrArg some (by kernel_rfl))
  f49 := ⟨"slices.medianAdjacentCmpFunc[pantry/span.edge]", by decide, Tryz.func175.trans (congrArg some (by kernel_rfl))⟩
  f50 := ⟨"slices.medianCmpFunc[pantry/span.edge]", by decide, Tryz.func176.trans (congrArg some (by kernel_rfl))⟩
  f57 := ⟨"slices.order2CmpFunc[pantry/span.edge]", by decide, Tryz.func183.trans (congrArg some (by kernel_rfl))⟩
  t0 := Tryz.underlying0
  a0 := Tryz.isAgg0
  z0 := Tryz.sizeOf0
  v0 := Tryz.zeroValue0
  t3 := Tryz.underlying3
  a3 := Tryz.isAgg3
  z3 := Tryz.sizeOf3
  v3 := Tryz.zeroValue3
  t4 := Tryz.underlying4
  a4 := Tryz.isAgg4
  z4 := Tryz.sizeOf4
  v4 := Tryz.zeroValue4
  t5 := Tryz.underlying5
  a5 := Tryz.isAgg5
  z5 := Tryz.sizeOf5
  v5 := Tryz.zeroValue5
  t9 := Tryz.underlying9
  a9 := Tryz.isAgg9
  z9 := Tryz.sizeOf9
  v9 := Tryz.zeroValue9
  t22 := Tryz.underlying132
  a22 := Tryz.isAgg132
  z22 := Tryz.sizeOf132
  v22 := Tryz.zeroValue132
  t25 := Tryz.underlying162
  a25 := Tryz.isAgg162
  z25 := Tryz.sizeOf162
  v25 := Tryz.zeroValue162
  t39 := Tryz.underlying178
  a39 := Tryz.isAgg178
  z39 := Tryz.sizeOf178
  v39 := Tryz.zeroValue178
  t45 := Tryz.underlying202
  a45 := Tryz.isAgg202
  z45 := Tryz.sizeOf202
  v45 := Tryz.zeroValue202
  t46 := Tryz.underlying203
  a46 := Tryz.isAgg203
  z46 := Tryz.sizeOf203
  v46 := Tryz.zeroValue203
  t50 := Tryz.underlying207
  a50 := Tryz.isAgg207
  z50 := Tryz.sizeOf207
  v50 := Tryz.zeroValue207
  t53 := Tryz.underlying210
  a53 := Tryz.isAgg210
  z53 := Tryz.sizeOf210
  v53 := Tryz.zeroValue210
  t55 := Tryz.underlying196
  a55 := Tryz.isAgg196
  z55 := Tryz.sizeOf196
  v55 := Tryz.zeroValue196
  t66 := Tryz.underlying221
  a66 := Tryz.isAgg221
  z66 := Tryz.sizeOf221
  v66 := Tryz.zeroValue221
  t70 := Tryz.underlying137
  a70 := Tryz.isAgg137
  z70 := Tryz.sizeOf137
  v70 := Tryz.zeroValue137
  t76 := Tryz.underlying229
  a76 := Tryz.isAgg229
  z76 := Tryz.sizeOf229
  v76 := Tryz.zeroValue229
  t77 := Tryz.underlying230
  a77 := Tryz.isAgg230
  z77 := Tryz.sizeOf230
  v77 := Tryz.zeroValue230 }
end Go.Proofs

/-
  The sort of edges, by its contract.
-/
namespace Go.Proofs.YtegapdmbpkfpmaaGreatDoor
open Go.RowKit Go.Shelf Go.Sort
set_option linter.unusedVariables false

/-- edges whose texts are not too long -/
abbrev Eb := {e : Er // e.a4.size ≤ 1048576}
instance : Inhabited Eb := ⟨⟨default, by show (0 : Nat) ≤ _; omega⟩⟩
def encB (x : Eb) : List Value := erC x.1
def cfB (x y : Eb) : Int := verC (toEd x.1).at_ (toEd y.1).at_
theorem swoB : SWO (ltOf cfB) where
  irrefl x := by unfold ltOf cfB; rw [v_self]; rfl
  trans x y z h1 h2 := by
    unfold ltOf cfB at *
    have a1 := of_decide_eq_true h1
    have a2 := of_decide_eq_true h2
    exact decide_eq_true (v_lt_trans a1 a2)
  ntrans x y z h1 h2 := by
    unfold ltOf cfB at *
    have a1 := of_decide_eq_false h1
    have a2 := of_decide_eq_false h2
    apply decide_eq_false
    intro h3
    have b1 := v_anti (toEd x.1).at_ (toEd y.1).at_
    have b2 := v_anti (toEd y.1).at_ (toEd z.1).at_
    have b3 := v_le_trans (show verC (toEd z.1).at_ (toEd y.1).at_ ≤ 0 by omega) (show verC (toEd y.1).at_ (toEd x.1).at_ ≤ 0 by omega)
    have b4 := v_anti (toEd z.1).at_ (toEd x.1).at_
    omega
theorem gr_grow {w w' : World} (h : Gr w w') : ∃ q os, w' = grow (w.drewN q) os := by
  refine ⟨w'.drawn - w.drawn, w'.heap.extract w.heap.size w'.heap.size, ?_⟩
  obtain ⟨hg, hd⟩ := h
  have hh : w'.heap = w.heap ++ w'.heap.extract w.heap.size w'.heap.size := by
    apply Array.ext_getElem?
    intro k
    by_cases hk : k < w.heap.size
    · rw [Array.getElem?_append_left hk]; exact hg.block k hk (by simp)
    · rw [Array.getElem?_append_right (by omega), Array.getElem?_extract]
      by_cases hk2 : k < w'.heap.size
      · rw [if_pos (by omega)]; congr 1; omega
      · rw [if_neg (by omega), Array.getElem?_eq_none (by omega)]
  have h1 := hg.os
  have h2 := hg.tape
  have h3 := hg.output
  cases w'; cases w
  simp only [grow, World.drewN, World.mk.injEq] at *
  exact ⟨hh, h2, by omega, h1, h3⟩
theorem cmpB (w : World) (blk off size : Nat) : CmpLays Tryz.prog 104 #[] encB 7 cfB blk off size w := by
  intro m os dk hdk x y
  refine (cmpE_any x.1 y.1 _ x.2 y.2).mono ?_
  rintro e w' ⟨rfl, hg⟩
  exact ⟨rfl, gr_grow hg⟩
theorem encLen (x : Eb) : (encB x).length = 7 := rfl
theorem encOne (x : Eb) : ∀ v ∈ encB x, v.oneCell' = true := er_one x.1
theorem flatB (d : Array Eb) : (flatK encB 7 d).toList = (d.toList.map (·.1)).flatMap erC := by
  apply List.ext_getElem?
  intro j
  have hl : ((d.toList.map (·.1)).flatMap erC).length = d.size * 7 := by
    have : ∀ L : List Er, (L.flatMap erC).length = L.length * 7 := by
      intro L
      induction L with
      | nil => rfl
      | cons e L ih => rw [List.flatMap_cons, List.length_append, ih, List.length_cons]; show 7 + _ = _; omega
    rw [this]; simp
  by_cases hj : j < d.size * 7
  · have hi : j / 7 < d.size := by omega
    have h1 : (flatK encB 7 d).toList[j]? = some ((encB d[j / 7]!)[j % 7]!) := by
      rw [Array.getElem?_toList, Array.getElem?_eq_getElem (by simpa using hj)]
      have := get_flatK encB 7 d j hj
      rw [getElem!_pos _ j (by simpa using hj)] at this
      rw [this]
    have h2 := flat_er (d.toList.map (·.1)) (j / 7) (by simpa using hi) (j % 7) ((encB d[j / 7]!)[j % 7]!) (by
      rw [getElem!_pos d (j / 7) hi]
      have hk : j % 7 < (encB d[j / 7]).length := by rw [encLen]; omega
      rw [getElem!_pos _ (j % 7) hk]
      rw [List.getElem_map, Array.getElem_toList]
      exact List.getElem?_eq_getElem hk)
    rw [show j / 7 * 7 + j % 7 = j by omega] at h2
    rw [h1, h2]
  · rw [List.getElem?_eq_none (by simp; omega), List.getElem?_eq_none (by rw [hl]; omega)]
theorem eg : ∀ args w, (callFunc 104 args).run Tryz.prog w = .ok (.enter 104 args) w := enters_of Tryz.func104 (by kernel_rfl) rfl

set_option maxRecDepth 100000 in
theorem sortSays : SortSays := by
  intro ve E base w hown hlen hsmall
  obtain ⟨D, hD⟩ : ∃ D : Array Eb, D.toList.map (·.1) = E := ⟨(E.attach.map fun e => (⟨e.1, hsmall e.1 e.2⟩ : Eb)).toArray, by simp⟩
  have hDs : D.size = E.length := by rw [← hD]; simp
  have hown' := hown
  rcases hown.2 with ⟨rfl, h0⟩ | ⟨g, cap, cur, rfl, hb, hg, hn, hm, hs, ht⟩
  · refine (AnyF.slices_SortFunc_none Tryz.laysSort none 0 (.func (.func 104) #[] #[]) w).mono ?_
    rintro e w' ⟨rfl, rfl⟩
    have hE : E = [] := List.eq_nil_of_length_eq_zero h0
    subst hE
    exact ⟨rfl, [], List.Perm.refl _, List.Pairwise.nil, hown', ⟨rfl, rfl, rfl, Nat.le_refl _, fun _ _ _ => rfl⟩⟩
  · have hH : HoldsK encB 7 w g 0 D := by
      intro j hj
      have hj' : j < (E.flatMap erC).length := by rw [hown.1, ← hDs]; simpa using hj
      refine ⟨?_, Lib.frozen_of_heap hg _⟩
      have h1 : (flatK encB 7 D).toList[j]? = (E.flatMap erC)[j]? := by rw [flatB, hD]
      rw [Array.getElem?_toList, Array.getElem?_eq_getElem hj] at h1
      rw [Nat.zero_add, Lib.cell_of_heap hg]
      rw [getElem!_pos _ j hj]
      show cur[j]? = some (id _)
      rw [id, h1, ← ht, List.getElem?_take_of_lt (by rw [hown.1] at hj'; exact hj')]
      simp
    rw [← hDs]
    refine (AnyQ.slices_SortFunc Tryz.laysSort 7 Tryz.isAgg135 Tryz.sizeOf135 encB encLen encOne cfB swoB 104 #[] g 0 cap D w eg (cmpB w g 0 D.size) hH (Array.getElem?_eq_some_iff.1 hg).1 (by omega)).mono ?_
    rintro e w' ⟨rfl, d', m, os, hperm, hsort, hw'⟩
    have hds : d'.size = D.size := hperm.1
    have hgl : g < w.heap.size := (Array.getElem?_eq_some_iff.1 hg).1
    have hheap : w'.heap = (w.heap.modify g (onCells (putCells id 0 (flatK encB 7 d')))) ++ os := by rw [hw']; rfl
    have hg' : w'.heap[g]? = some (.cells (putCells id 0 (flatK encB 7 d') cur) 135) := by
      rw [hheap, Array.getElem?_append_left (by simpa using hgl), Array.getElem?_modify, if_pos rfl, hg]; rfl
    have hFs : (flatK encB 7 d').size = D.size * 7 := by simp [hds]
    have hcs : D.size * 7 ≤ cur.size := by rw [hs, hDs]; omega
    have hlen2 : ((d'.toList.map (·.1)).flatMap erC).length = D.size * 7 := by rw [← flatB, Array.length_toList, hFs]
    refine ⟨rfl, d'.toList.map (·.1), ?_, ?_, ⟨?_, .inr ⟨g, cap, _, ?_, hb, hg', ?_, hm, ?_, ?_⟩⟩, ?_⟩
    · rw [← hD]
      apply List.Perm.map
      have := hperm.2.2
      rw [Array.extract_size] at this
      rw [show d'.extract 0 D.size = d' by rw [← hds, Array.extract_size]] at this
      exact this
    · show List.Pairwise _ _
      rw [List.pairwise_iff_getElem]
      intro i j hi hj hij
      simp only [List.length_map, Array.length_toList] at hi hj
      have := hsort i j (Nat.zero_le _) hij (by omega)
      rw [getElem!_pos d' j hj, getElem!_pos d' i hi] at this
      have h3 := of_decide_eq_false this
      have h4 := v_anti (toEd d'[j].1).at_ (toEd d'[i].1).at_
      simp only [List.getElem_map, Array.getElem_toList]
      unfold cfB at h3
      omega
    · rw [hlen2]; simp [hds]
    · simp [hds]
    · simp [hds]; omega
    · simp [putCells, hs]
    · rw [show (d'.toList.map (·.1)).length = D.size by simp [hds], ← flatB]
      apply List.ext_getElem?
      intro j
      by_cases hj : j < D.size * 7
      · rw [List.getElem?_take_of_lt hj, Array.getElem?_toList, Array.getElem?_toList]
        rw [putCells, Array.getElem?_mapIdx, Array.getElem?_eq_getElem (show j < cur.size by omega)]
        rw [Option.map_some, if_pos ⟨Nat.zero_le _, by omega⟩, Nat.sub_zero, id, getElem!_pos _ j (by omega)]
        exact (Array.getElem?_eq_getElem _).symm
      · rw [List.getElem?_eq_none (by simp; omega), List.getElem?_eq_none (by rw [Array.length_toList]; omega)]
    · refine ⟨by rw [hw']; rfl, by rw [hw']; rfl, by rw [hw']; rfl, ?_, ?_⟩
      · rw [hheap]; simp
      · intro k hk hne
        have hkg : g ≠ k := by
          intro h; subst h; exact hne rfl
        rw [hheap, Array.getElem?_append_left (by simpa using hk), Array.getElem?_modify, if_neg hkg]
end Go.Proofs.YtegapdmbpkfpmaaGreatDoor
