import Derived.Test.YtkafaocbeankiaaGreatDoorM07
import Derived.Below
import Derived.Deep.RegionHeld3
import Derived.Test.YtkafaocbeankiaaGreatDoorM05
/-
  Compare, walked.
-/
namespace Go.Proofs.YtkafaocbeankiaaGreatDoor
open Go.RowKit
set_option linter.unusedVariables false

def or3 (x y z : Int) : Int := if x = 0 then (if y = 0 then z else y) else x
set_option maxHeartbeats 400000 in
theorem or_any (x y z : Int) (b : Nat) (w : World) (h0 : w.cell? ⟨b, 0, none⟩ = some (.int .i64 x)) (h1 : w.cell? ⟨b, 1, none⟩ = some (.int .i64 y)) (h2 : w.cell? ⟨b, 2, none⟩ = some (.int .i64 z)) :
    Calls Tryz.prog 51 #[.slice (some ⟨b, 0, none⟩) 3 3] w fun e w' => e = .returned (.int .i64 (or3 x y z)) ∧ w' = w := by
  obtain ⟨R, hR⟩ : ∃ R, R = or3 x y z := ⟨_, rfl⟩
  have HR : Hid (R = or3 x y z) := hR
  rw [← hR]
  clear hR
  go_enter Tryz.func51, Tryz.ntmps51
  go_wp2
  go_loop [8] (fun i => ∃ k : Nat, k ≤ 3 ∧ i = .int .i64 k ∧ (1 ≤ k → x = 0) ∧ (2 ≤ k → y = 0) ∧ (3 ≤ k → z = 0)) (fun i => 3 - (intOf i).toNat)
  case atStart => exact ⟨0, by omega, rfl, by omega, by omega, by omega⟩
  case round =>
    obtain ⟨k, hk, rfl, k1, k2, k3⟩ := hrel
    rcases (show k = 0 ∨ k = 1 ∨ k = 2 ∨ k = 3 by omega) with rfl | rfl | rfl | rfl
    · clear k1 k2 k3 hk
      cases hz : (x == 0) with
      | true =>
        have hx : x = 0 := by simpa using hz
        go_wp2
        go_round
        case rel => exact ⟨1, by omega, rfl, fun _ => hx, by omega, by omega⟩
        case measure => simp [intOf]
      | false =>
        have HZ : Hid (R = x) := by show R = x; rw [HR.out]; unfold or3; rw [if_neg (by simpa using hz)]
        go_wp2
        go_ret
        exact ⟨ret_int HZ.out.symm, rfl⟩
    · have hx : Hid (x = 0) := k1 (by omega)
      clear k1 k2 k3 hk
      cases hz : (y == 0) with
      | true =>
        have hy : y = 0 := by simpa using hz
        go_wp2
        go_round
        case rel => exact ⟨2, by omega, rfl, fun _ => hx.out, fun _ => hy, by omega⟩
        case measure => simp [intOf]
      | false =>
        have HZ : Hid (R = y) := by show R = y; rw [HR.out]; unfold or3; rw [if_pos hx.out, if_neg (by simpa using hz)]
        go_wp2
        go_ret
        exact ⟨ret_int HZ.out.symm, rfl⟩
    · have hx : Hid (x = 0) := k1 (by omega)
      have hy : Hid (y = 0) := k2 (by omega)
      clear k1 k2 k3 hk
      have HZ : Hid (R = z) := by show R = z; rw [HR.out]; unfold or3; rw [if_pos hx.out, if_pos hy.out]
      cases hz : (z == 0) with
      | true =>
        have hy' : z = 0 := by simpa using hz
        go_wp2
        go_round
        case rel => exact ⟨3, by omega, rfl, fun _ => hx.out, fun _ => hy.out, fun _ => hy'⟩
        case measure => simp [intOf]
      | false =>
        go_wp2
        go_ret
        exact ⟨ret_int HZ.out.symm, rfl⟩
    · have HZ : Hid (R = 0) := by show R = 0; rw [HR.out]; unfold or3; rw [if_pos (k1 (by omega)), if_pos (k2 (by omega)), k3 (by omega)]
      clear k1 k2 k3 hk
      go_wp2
      go_ret
      exact ⟨ret_int HZ.out.symm, rfl⟩

theorem verC_or (a b : V) : verC a b = if or3 (Lib.compareInt a.major b.major) (Lib.compareInt a.minor b.minor) (Lib.compareInt a.patch b.patch) = 0 then preC a.pre b.pre else or3 (Lib.compareInt a.major b.major) (Lib.compareInt a.minor b.minor) (Lib.compareInt a.patch b.patch) := by
  rw [verC_eq]; unfold or3
  repeat' split
  all_goals first | rfl | (exfalso; omega) | omega

set_option maxHeartbeats 800000 in
theorem compare_any (a1 a2 a3 b1 b2 b3 : Int) (a4 a5 b4 b5 : ByteArray) (w : World) (hs : a4.size < 2 ^ 62) (hs' : b4.size < 2 ^ 62) :
    Calls Tryz.prog 36 #[.agg #[.int .i64 a1, .int .i64 a2, .int .i64 a3, .string a4, .string a5], .agg #[.int .i64 b1, .int .i64 b2, .int .i64 b3, .string b4, .string b5]] w fun e w' => e = .returned (.int .i64 (verC ⟨a1, a2, a3, a4.data.toList⟩ ⟨b1, b2, b3, b4.data.toList⟩)) ∧ w.grownBy w' none := by
  obtain ⟨R, hR⟩ : ∃ R, R = verC ⟨a1, a2, a3, a4.data.toList⟩ ⟨b1, b2, b3, b4.data.toList⟩ := ⟨_, rfl⟩
  obtain ⟨x, hx⟩ : ∃ x, x = Lib.compareInt a1 b1 := ⟨_, rfl⟩
  obtain ⟨y, hy⟩ : ∃ y, y = Lib.compareInt a2 b2 := ⟨_, rfl⟩
  obtain ⟨z, hz⟩ : ∃ z, z = Lib.compareInt a3 b3 := ⟨_, rfl⟩
  obtain ⟨p, hp⟩ : ∃ p, p = preC a4.data.toList b4.data.toList := ⟨_, rfl⟩
  obtain ⟨o, ho⟩ : ∃ o, o = or3 x y z := ⟨_, rfl⟩
  have HR : Hid (R = if o = 0 then p else o) := by
    show R = if o = 0 then p else o
    rw [hR, verC_or, ho, hx, hy, hz, hp]
  have C1 : Hid (∀ w, Calls Tryz.prog 52 #[.int .i64 a1, .int .i64 b1] w fun e w' => e = .returned (.int .i64 x) ∧ w' = w) := fun w => by rw [hx]; exact cmpInt_any _ _ w
  have C2 : Hid (∀ w, Calls Tryz.prog 52 #[.int .i64 a2, .int .i64 b2] w fun e w' => e = .returned (.int .i64 y) ∧ w' = w) := fun w => by rw [hy]; exact cmpInt_any _ _ w
  have C3 : Hid (∀ w, Calls Tryz.prog 52 #[.int .i64 a3, .int .i64 b3] w fun e w' => e = .returned (.int .i64 z) ∧ w' = w) := fun w => by rw [hz]; exact cmpInt_any _ _ w
  have CP : Hid (∀ w, Calls Tryz.prog 53 #[.string a4, .string b4] w fun e w' => e = .returned (.int .i64 p) ∧ w.grownBy w' none) := fun w => by rw [hp]; exact pre_any a4 b4 w hs hs'
  have CO : Hid (∀ (b : Nat) (w : World), w.cell? ⟨b, 0, none⟩ = some (.int .i64 x) → w.cell? ⟨b, 1, none⟩ = some (.int .i64 y) → w.cell? ⟨b, 2, none⟩ = some (.int .i64 z) → Calls Tryz.prog 51 #[.slice (some ⟨b, 0, none⟩) 3 3] w fun e w' => e = .returned (.int .i64 o) ∧ w' = w) := fun b w h0 h1 h2 => by rw [ho]; exact or_any x y z b w h0 h1 h2
  rw [← hR]
  clear hR hx hy hz hp ho hs hs'
  go_enter Tryz.func36, Tryz.ntmps36
  go_wp2
  obtain ⟨W, hW⟩ : ∃ W, (w.alloc (.cells #[.int .i64 a1, .int .i64 a2, .int .i64 a3, .string a4, .string a5] 35)).alloc (.cells #[.int .i64 b1, .int .i64 b2, .int .i64 b3, .string b4, .string b5] 35) = W := ⟨_, rfl⟩
  rw [hW]
  have g1 : W.heap[w.heap.size]? = some (.cells #[.int .i64 a1, .int .i64 a2, .int .i64 a3, .string a4, .string a5] 35 (0, 0)) := by
    rw [← hW, Lib.alloc_old _ _ _ (by simp)]
    exact heap_alloc_new w _
  have g2 : W.heap[w.heap.size + 1]? = some (.cells #[.int .i64 b1, .int .i64 b2, .int .i64 b3, .string b4, .string b5] 35 (0, 0)) := by
    rw [← hW]
    have := heap_alloc_new (w.alloc (.cells #[.int .i64 a1, .int .i64 a2, .int .i64 a3, .string a4, .string a5] 35)) (.cells #[.int .i64 b1, .int .i64 b2, .int .i64 b3, .string b4, .string b5] 35)
    rw [show (w.alloc (.cells #[.int .i64 a1, .int .i64 a2, .int .i64 a3, .string a4, .string a5] 35)).heap.size = w.heap.size + 1 by simp] at this
    exact this
  have HGW : Hid (w.grownBy W none) := by
    show w.grownBy W none
    rw [← hW]
    exact ⟨rfl, rfl, rfl, by simp; omega, fun k hk _ => by rw [Lib.alloc_old _ _ _ (by simp; omega), Lib.alloc_old _ _ _ hk]⟩
  have HSZ : Hid (W.heap.size = w.heap.size + 2) := by
    show W.heap.size = w.heap.size + 2
    rw [← hW]; simp
  obtain ⟨A, hA⟩ : ∃ A, w.heap.size = A := ⟨_, rfl⟩
  rw [hA] at g1 g2
  rw [hA]
  have HA : Hid (W.heap.size = A + 2) := by
    show W.heap.size = A + 2
    rw [← hA]; exact HSZ.out
  have c0 : W.cell? ⟨A, 0, none⟩ = some (.int .i64 a1) := by rw [Lib.cell_of_heap g1]; rfl
  have c1 : W.cell? ⟨A, 1, none⟩ = some (.int .i64 a2) := by rw [Lib.cell_of_heap g1]; rfl
  have c2 : W.cell? ⟨A, 2, none⟩ = some (.int .i64 a3) := by rw [Lib.cell_of_heap g1]; rfl
  have c3 : Hid (W.cell? ⟨A, 3, none⟩ = some (.string a4)) := by show W.cell? _ = _; rw [Lib.cell_of_heap g1]; rfl
  have d0 : W.cell? ⟨A + 1, 0, none⟩ = some (.int .i64 b1) := by rw [Lib.cell_of_heap g2]; rfl
  have d1 : W.cell? ⟨A + 1, 1, none⟩ = some (.int .i64 b2) := by rw [Lib.cell_of_heap g2]; rfl
  have d2 : W.cell? ⟨A + 1, 2, none⟩ = some (.int .i64 b3) := by rw [Lib.cell_of_heap g2]; rfl
  have d3 : Hid (W.cell? ⟨A + 1, 3, none⟩ = some (.string b4)) := by show W.cell? _ = _; rw [Lib.cell_of_heap g2]; rfl
  clear hW hA HSZ g1 g2
  go_region_held3 (fun w' => w'.cell? ⟨A, 0, none⟩ = some (.int .i64 a1) ∧ w'.cell? ⟨A, 1, none⟩ = some (.int .i64 a2) ∧ w'.cell? ⟨A, 2, none⟩ = some (.int .i64 a3) ∧ w'.cell? ⟨A + 1, 0, none⟩ = some (.int .i64 b1) ∧ w'.cell? ⟨A + 1, 1, none⟩ = some (.int .i64 b2) ∧ w'.cell? ⟨A + 1, 2, none⟩ = some (.int .i64 b3)) (go_keep) (first | (go_at_call_of 52 (Value.int .i64 a1); refine (C1.out _).mono ?_; rintro e w' ⟨rfl, rfl⟩) | (go_at_call_of 52 (Value.int .i64 a2); refine (C2.out _).mono ?_; rintro e w' ⟨rfl, rfl⟩) | (go_at_call_of 52 (Value.int .i64 a3); refine (C3.out _).mono ?_; rintro e w' ⟨rfl, rfl⟩) | (go_at_call 51; refine (CO.out _ _ (by simp) (by simp) (by simp)).mono ?_; rintro e w' ⟨rfl, rfl⟩))
  obtain ⟨W2, hW2⟩ : ∃ W2, (W.alloc (.cells #[.int .i64 x, .int .i64 y, .int .i64 z] 3)).drew = W2 := ⟨_, rfl⟩
  rw [hW2]
  have hlt : A < W.heap.size ∧ A + 1 < W.heap.size := by have := HA.out; omega
  have e3 : W2.cell? ⟨A, 3, none⟩ = some (.string a4) := by
    rw [← hW2]
    exact (World.cell?_of_block (show ((W.alloc _).drew).heap[A]? = W.heap[A]? from Lib.alloc_old W _ A hlt.1)).trans c3.out
  have f3 : W2.cell? ⟨A + 1, 3, none⟩ = some (.string b4) := by
    rw [← hW2]
    exact (World.cell?_of_block (show ((W.alloc _).drew).heap[A + 1]? = W.heap[A + 1]? from Lib.alloc_old W _ (A + 1) hlt.2)).trans d3.out
  have HG2 : Hid (w.grownBy W2 none) := by
    show w.grownBy W2 none
    rw [← hW2]
    have h1 : W.grownBy ((W.alloc (.cells #[.int .i64 x, .int .i64 y, .int .i64 z] 3)).drew) none := ⟨rfl, rfl, rfl, by simp, fun k hk _ => Lib.alloc_old W _ k hk⟩
    exact gb_trans HGW.out h1
  clear hW2 hlt c0 c1 c2 c3 d0 d1 d2 d3 HA HGW C1 C2 C3 CO
  cases hz : (o == 0) with
  | false =>
    have HZ : Hid (R = o) := by show R = o; rw [HR.out, if_neg (by simpa using hz)]
    go_wp2
    go_ret
    exact ⟨ret_int HZ.out.symm, HG2.out⟩
  | true =>
    have HZ : Hid (R = p) := by show R = p; rw [HR.out, if_pos (by simpa using hz)]
    go_wp2_with (first | (go_at_call 53; refine (CP.out _).mono ?_; rintro e w4 ⟨rfl, hg4⟩))
    go_ret
    exact ⟨ret_int HZ.out.symm, gb_trans HG2.out hg4⟩
end Go.Proofs.YtkafaocbeankiaaGreatDoor

/-
  The document's order of texts and numbers, walked.
-/
namespace Go.Proofs.YtkafaocbeankiaaGreatDoor
open Go.RowKit
set_option linter.unusedVariables false

set_option maxHeartbeats 400000 in
theorem rorder_any (x y : Int) (w : World) : Calls Tryz.prog 30 #[.int .i64 x, .int .i64 y] w fun e w' => e = .returned (.int .i64 (Lib.compareInt x y)) ∧ w' = w := by
  go_enter Tryz.func30, Tryz.ntmps30
  go_wp2
  all_goals go_ret
  all_goals (refine ⟨ret_int ?_, rfl⟩; unfold Lib.compareInt; repeat' split)
  all_goals omega

set_option maxHeartbeats 400000 in
theorem rorderText_any (a b : ByteArray) (w : World) : Calls Tryz.prog 59 #[.string a, .string b] w fun e w' => e = .returned (.int .i64 (Lib.compareBytes a.data.toList b.data.toList)) ∧ w' = w := by
  cases h1 : Op.bytesLess a.toList b.toList with
  | true =>
    rw [less_m1 h1]
    go_enter Tryz.func59, Tryz.ntmps59
    go_wp2
    go_ret
    exact ⟨rfl, rfl⟩
  | false =>
    cases h2 : (!a.toList == b.toList) with
    | true =>
      rw [less_p1 h1 h2]
      go_enter Tryz.func59, Tryz.ntmps59
      go_wp2
      go_ret
      exact ⟨rfl, rfl⟩
    | false =>
      rw [less_0 h2]
      go_enter Tryz.func59, Tryz.ntmps59
      go_wp2
      go_ret
      exact ⟨rfl, rfl⟩

theorem bareR_stop (l : List UInt8) (h : l.length ≤ 1 ∨ l[0]? ≠ some 48) : bareR l = l := by
  match l with
  | [] => rfl
  | [c] => rfl
  | c :: d :: r =>
    have : c ≠ 48 := by
      rcases h with h | h
      · simp at h
      · simpa using h
    unfold bareR; rw [if_neg this]
theorem bareR_step (l : List UInt8) (h1 : 1 < l.length) (h : l[0]? = some 48) : bareR l = bareR (l.drop 1) := by
  match l with
  | [] => simp at h1
  | [c] => simp at h1
  | c :: d :: r =>
    have : c = 48 := by simpa using h
    conv => lhs; unfold bareR
    rw [if_pos this]; rfl
theorem mk_data (x : ByteArray) : (⟨x.data.toList.toArray⟩ : ByteArray) = x := by cases x; simp

set_option maxHeartbeats 400000 in
theorem rbare_any (s : ByteArray) (w : World) (hs : s.size < 2 ^ 62) :
    Calls Tryz.prog 60 #[.string s] w fun e w' => e = .returned (.string ⟨(bareR s.data.toList).toArray⟩) ∧ w' = w := by
  obtain ⟨R, hR⟩ : ∃ R, R = bareR s.data.toList := ⟨_, rfl⟩
  have HR : Hid (R = bareR s.data.toList) := hR
  rw [← hR]
  clear hR
  go_enter Tryz.func60, Tryz.ntmps60
  go_wp2
  go_loop [0] (fun v => ∃ x : ByteArray, v = .string x ∧ R = bareR x.data.toList) (fun v => sizeV v)
  case atStart => exact ⟨s, rfl, HR.out⟩
  case round =>
    obtain ⟨x, rfl, hr⟩ := hrel
    have HX : Hid (R = bareR x.data.toList) := hr
    clear hr
    by_cases h1 : 1 < x.size
    · have h0 : 0 < x.size := by omega
      cases hz : ((x[0].toNat : Int) == 48) with
      | true =>
        have hc : x[0] = 48 := UInt8.toNat_inj.1 (by have := eq_of_beq hz; have e48 : (48 : UInt8).toNat = 48 := rfl; omega)
        obtain ⟨Y, hY⟩ : ∃ Y : ByteArray, Y = ⟨(x.data.toList.drop 1).toArray⟩ := ⟨_, rfl⟩
        have HY : Hid (R = bareR Y.data.toList) := by
          show R = bareR Y.data.toList
          rw [HX.out, bareR_step _ (by simpa using h1) (by rw [get_data x 0 h0, hc]), hY]
        have HL : Hid (Y.size < x.size) := by
          show Y.size < x.size
          rw [hY]; show (x.data.toList.drop 1).toArray.size < x.size
          simp; omega
        have sl : ∀ wx, (Instr.slice 9 (.string x) (some (.int .i64 1)) none none).run Tryz.prog wx = .ok (.string Y) wx := fun wx => by rw [hY]; exact run_suf x 1 (by omega) wx
        clear hY hc
        go_wp2
        go_round
        case rel => exact ⟨Y, rfl, HY.out⟩
        case measure => exact HL.out
      | false =>
        have HS : Hid (R = x.data.toList) := by
          show R = x.data.toList
          rw [HX.out]
          refine bareR_stop _ (Or.inr ?_)
          rw [get_data x 0 h0]
          intro e
          have e' : x[0] = 48 := Option.some.inj e
          rw [e'] at hz
          exact absurd hz (by decide)
        go_wp2
        go_ret
        exact ⟨by rw [HS.out, mk_data]; rfl, rfl⟩
    · have HS : Hid (R = x.data.toList) := by
        show R = x.data.toList
        rw [HX.out]
        exact bareR_stop _ (Or.inl (by simp; exact Nat.le_of_not_lt h1))
      go_wp2
      go_ret
      exact ⟨by rw [HS.out, mk_data]; rfl, rfl⟩

end Go.Proofs.YtkafaocbeankiaaGreatDoor

/-
  What split answers, as a slice.
-/
namespace Go.Proofs.YtkafaocbeankiaaGreatDoor
open Go.RowKit
set_option linter.unusedVariables false

theorem below_drewN {B : Nat} {a w : World} (h : Below B a w) (n : Nat) : Below B a (w.drewN n) := ⟨h.os, h.tape, h.output, h.size, h.block⟩
theorem owns_slice {w : World} {base : Nat} {v : Value} {D : List (List UInt8)} (h : w.ownsRow base 9 1 v D.length (strL D)) (hne : D ≠ []) :
    ∃ g cap, v = .slice (some ⟨g, 0, none⟩) D.length cap ∧ base ≤ g ∧ g < w.heap.size ∧ ∀ j, (hj : j < D.length) → w.cell? ⟨g, j, none⟩ = some (.string ⟨D[j].toArray⟩) := by
  have hpos : 0 < D.length := List.length_pos_iff.2 hne
  rcases h.2 with ⟨_, hz⟩ | ⟨g, cap, cur, hv, hbg, hg, hnc, hcm, hcs, htake⟩
  · simp at hz; exact absurd hz hne
  · refine ⟨g, cap, hv, hbg, (Array.getElem?_eq_some_iff.1 hg).1, fun j hj => ?_⟩
    have ht : cur.toList.take D.length = strL D := by simpa using htake
    rw [Lib.cell_of_heap hg]
    have h1 : (strL D)[j]? = some (.string ⟨D[j].toArray⟩) := by unfold strL; rw [List.getElem?_map, List.getElem?_eq_getElem hj]; rfl
    rw [← ht, List.getElem?_take_of_lt hj] at h1
    simpa using h1

theorem split_slice (s : ByteArray) (w : World) (hs : s.size ≤ 1048576) :
    Calls Tryz.prog 41 #[.string s] w fun e w' => ∃ g cap, e = .returned (.slice (some ⟨g, 0, none⟩) (splitD s.data.toList).length cap) ∧ w.heap.size ≤ g ∧ g < w'.heap.size ∧ (∀ j, (hj : j < (splitD s.data.toList).length) → w'.cell? ⟨g, j, none⟩ = some (.string ⟨(splitD s.data.toList)[j].toArray⟩)) ∧ Below w.heap.size w w' := by
  refine (split_any s w hs).mono ?_
  rintro e w' ⟨v, rfl, hrow, hb⟩
  obtain ⟨g, cap, rfl, h1, h2, h3⟩ := owns_slice hrow (splitD_ne _)
  exact ⟨g, cap, rfl, h1, h2, h3, hb⟩

theorem part_len : ∀ (l : List UInt8) (p : List UInt8), p ∈ splitD l → p.length ≤ l.length
  | [], p, h => by simp [splitD] at h; rw [h]; exact Nat.le_refl _
  | c :: l, p, h => by
    rw [splitD_cons] at h
    split at h
    · rcases List.mem_cons.1 h with rfl | h
      · simp
      · have := part_len l p h; simp; omega
    · cases hs : splitD l with
      | nil => exact absurd hs (splitD_ne l)
      | cons q qs =>
        rw [hs] at h
        rcases List.mem_cons.1 h with rfl | h
        · have := part_len l q (by rw [hs]; simp); simp; omega
        · have := part_len l p (by rw [hs]; simp [h]); simp; omega

theorem split_len : ∀ (l : List UInt8), (splitD l).length ≤ l.length + 1
  | [] => by simp [splitD]
  | c :: l => by
    have ih := split_len l
    rw [splitD_cons]
    split
    · simp; exact ih
    · cases hs : splitD l with
      | nil => exact absurd hs (splitD_ne l)
      | cons q qs => rw [hs] at ih; simp at ih ⊢; omega

end Go.Proofs.YtkafaocbeankiaaGreatDoor
