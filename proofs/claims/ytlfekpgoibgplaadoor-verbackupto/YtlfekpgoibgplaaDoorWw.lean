/-
  Three numbers read, walked.
-/
import Derived.Test.YtlfekpgoibgplaaDoorWv
import Derived.Test.YtlfekpgoibgplaaDoorLk
namespace Go.Proofs.YtlfekpgoibgplaaDoor
open Go.RowKit
set_option linter.unusedVariables false

/-- grown, but for two blocks -/
structure G2 (b v : Nat) (w w' : World) : Prop where
  os : w'.os = w.os
  tape : w'.tape = w.tape
  output : w'.output = w.output
  size : w.heap.size ≤ w'.heap.size
  block : ∀ k, k < w.heap.size → k ≠ b → k ≠ v → w'.heap[k]? = w.heap[k]?
theorem G2.refl (b v : Nat) (w : World) : G2 b v w w := ⟨rfl, rfl, rfl, Nat.le_refl _, fun _ _ _ _ => rfl⟩
theorem G2.step {b v : Nat} {w w1 w2 : World} (h : G2 b v w w1) (hg : w1.grownBy w2 (some b)) : G2 b v w w2 :=
  ⟨hg.os.trans h.os, hg.tape.trans h.tape, hg.output.trans h.output, Nat.le_trans h.size hg.size, fun k hk h1 h2 => (hg.block k (Nat.lt_of_lt_of_le hk h.size) (by simpa using h1)).trans (h.block k hk h1 h2)⟩
theorem G2.drew {b v : Nat} {w w1 : World} (h : G2 b v w w1) (n : Nat) : G2 b v w (w1.drewN n) := ⟨h.os, h.tape, h.output, h.size, h.block⟩
theorem G2.set {b v : Nat} {w w1 : World} (h : G2 b v w w1) (o : Nat) (x : Value) : G2 b v w (w1.setCell ⟨v, o, none⟩ x) :=
  ⟨h.os, h.tape, h.output, by simpa [World.setCell] using h.size, fun k hk h1 h2 => by rw [← h.block k hk h1 h2]; exact heap_setCell_other w1 _ k x (fun e => h2 e)⟩

/-- the version's block -/
def VB (v : Nat) (x1 x2 x3 : Int) (w : World) : Prop := w.heap[v]? = some (.cells #[.int .i64 x1, .int .i64 x2, .int .i64 x3, .string ⟨#[]⟩, .string ⟨#[]⟩] 25 (0, 0))

theorem VB.cell {v : Nat} {x1 x2 x3 : Int} {w : World} (h : VB v x1 x2 x3 w) : w.cell? ⟨v, 0, none⟩ = some (.int .i64 x1) ∧ w.cell? ⟨v, 1, none⟩ = some (.int .i64 x2) ∧ w.cell? ⟨v, 2, none⟩ = some (.int .i64 x3) :=
  ⟨by rw [Lib.cell_of_heap h]; rfl, by rw [Lib.cell_of_heap h]; rfl, by rw [Lib.cell_of_heap h]; rfl⟩
theorem VB.f {v : Nat} {x1 x2 x3 : Int} {w : World} (h : VB v x1 x2 x3 w) (o : Nat) : w.frozen? ⟨v, o, none⟩ = false := Lib.frozen_of_heap h o
theorem VB.grow {b v : Nat} {x1 x2 x3 : Int} {w w' : World} (h : VB v x1 x2 x3 w) (hg : w.grownBy w' (some b)) (hn : v ≠ b) : VB v x1 x2 x3 w' := by
  unfold VB at h ⊢
  rw [hg.block v ((Array.getElem?_eq_some_iff.1 h).1) (by simpa using hn)]; exact h
theorem VB.drew {v : Nat} {x1 x2 x3 : Int} {w : World} (h : VB v x1 x2 x3 w) (n : Nat) : VB v x1 x2 x3 (w.drewN n) := h
theorem VB.set0 {v : Nat} {x1 x2 x3 : Int} {w : World} (h : VB v x1 x2 x3 w) (y : Int) : VB v y x2 x3 (w.setCell ⟨v, 0, none⟩ (.int .i64 y)) := by
  unfold VB at h ⊢; simp [World.setCell, Array.getElem?_modify, h]
theorem VB.set1 {v : Nat} {x1 x2 x3 : Int} {w : World} (h : VB v x1 x2 x3 w) (y : Int) : VB v x1 y x3 (w.setCell ⟨v, 1, none⟩ (.int .i64 y)) := by
  unfold VB at h ⊢; simp [World.setCell, Array.getElem?_modify, h]
theorem VB.set2 {v : Nat} {x1 x2 x3 : Int} {w : World} (h : VB v x1 x2 x3 w) (y : Int) : VB v x1 x2 y (w.setCell ⟨v, 2, none⟩ (.int .i64 y)) := by
  unfold VB at h ⊢; simp [World.setCell, Array.getElem?_modify, h]
theorem RS.other {b v : Nat} {s : ByteArray} {i : Nat} {w : World} (h : RS b s i w) (hn : b ≠ v) (o : Nat) (x : Value) : RS b s i (w.setCell ⟨v, o, none⟩ x) := by
  unfold RS at h ⊢; rw [← h]; exact heap_setCell_other w _ b x hn

def rest3 (l : List UInt8) (j : Nat) (x1 x2 x3 : Int) : Int × Nat × Int × Int × Int := (0, j, x1, x2, x3)
def rest2 (l : List UInt8) (j : Nat) (x1 x2 : Int) : Int × Nat × Int × Int × Int :=
  if l[j]? = some 46 then (if (rdNum l (j + 1)).1 = 0 then rest3 l (rdNum l (j + 1)).2.2 x1 x2 (rdNum l (j + 1)).2.1 else ((rdNum l (j + 1)).1, (rdNum l (j + 1)).2.2, 0, 0, 0)) else (2, j, 0, 0, 0)
def rest1 (l : List UInt8) (j : Nat) (x1 : Int) : Int × Nat × Int × Int × Int :=
  if l[j]? = some 46 then (if (rdNum l (j + 1)).1 = 0 then rest2 l (rdNum l (j + 1)).2.2 x1 (rdNum l (j + 1)).2.1 else ((rdNum l (j + 1)).1, (rdNum l (j + 1)).2.2, 0, 0, 0)) else (2, j, 0, 0, 0)
theorem nums_rest (l : List UInt8) : rdNums l = if (rdNum l 0).1 = 0 then rest1 l (rdNum l 0).2.2 (rdNum l 0).2.1 else ((rdNum l 0).1, (rdNum l 0).2.2, 0, 0, 0) := rfl
theorem num_le (l : List UInt8) (i : Nat) (hi : i ≤ l.length) : (rdNum l i).2.2 ≤ l.length := by
  have := runN_le isD l i hi
  unfold rdNum
  repeat' split
  all_goals first | exact hi | (simp only; omega)

theorem ip0 (v : Nat) (w : World) : (Instr.index 91 (.agg #[.pointer (some ⟨v, 0, none⟩), .pointer (some ⟨v, 1, none⟩), .pointer (some ⟨v, 2, none⟩)]) (.int .i64 0)).run Tryd.prog w = .ok (.pointer (some ⟨v, 0, none⟩)) w := by kernel_rfl
theorem ip1 (v : Nat) (w : World) : (Instr.index 91 (.agg #[.pointer (some ⟨v, 0, none⟩), .pointer (some ⟨v, 1, none⟩), .pointer (some ⟨v, 2, none⟩)]) (.int .i64 1)).run Tryd.prog w = .ok (.pointer (some ⟨v, 1, none⟩)) w := by kernel_rfl
theorem ip2 (v : Nat) (w : World) : (Instr.index 91 (.agg #[.pointer (some ⟨v, 0, none⟩), .pointer (some ⟨v, 1, none⟩), .pointer (some ⟨v, 2, none⟩)]) (.int .i64 2)).run Tryd.prog w = .ok (.pointer (some ⟨v, 2, none⟩)) w := by kernel_rfl

set_option maxRecDepth 100000 in
set_option maxHeartbeats 3200000 in
theorem numbers_any (b v : Nat) (s : ByteArray) (w : World) (h : RS b s 0 w) (hv : VB v 0 0 0 w) (hbv : b ≠ v) (hs : s.size < 2 ^ 62) :
    Calls Tryd.prog 45 #[.pointer (some ⟨b, 0, none⟩), .pointer (some ⟨v, 0, none⟩)] w fun e w' => e = .returned (.int .i64 (rdNums s.data.toList).1) ∧ RS b s (rdNums s.data.toList).2.1 w' ∧ (∃ y1 y2 y3, VB v y1 y2 y3 w' ∧ ((rdNums s.data.toList).1 = 0 → (y1, y2, y3) = (rdNums s.data.toList).2.2)) ∧ G2 b v w w' := by
  obtain ⟨l, hl⟩ : ∃ l, l = s.data.toList := ⟨_, rfl⟩
  have hll : l.length = s.size := by rw [hl]; simp
  have HLL : Hid (l.length = s.size) := hll
  obtain ⟨R, hR⟩ : ∃ R, rdNums l = R := ⟨_, rfl⟩
  rw [← hl, hR]
  have HNR := nums_rest l
  rw [hR] at HNR
  have HR : Hid (R = if (rdNum l 0).1 = 0 then rest1 l (rdNum l 0).2.2 (rdNum l 0).2.1 else ((rdNum l 0).1, (rdNum l 0).2.2, 0, 0, 0)) := HNR
  have CN : Hid (∀ i w, i ≤ s.size → RS b s i w → Calls Tryd.prog 59 #[.pointer (some ⟨b, 0, none⟩)] w fun e w' => e = .returned (.tuple #[.int .i64 (rdNum l i).2.1, .int .i64 (rdNum l i).1]) ∧ RS b s (rdNum l i).2.2 w' ∧ w.grownBy w' (some b)) := fun i w hi h => by rw [hl]; exact num_any b s i w hi h hs
  have TY : Hid (∀ i w, l[i]? = some 46 → RS b s i w → Calls Tryd.prog 54 #[.pointer (some ⟨b, 0, none⟩), .string ⟨#[46]⟩] w fun e w' => e = .returned (.bool true) ∧ RS b s (i + 1) w' ∧ w.grownBy w' (some b)) := fun i w hc h => take_yes b s i 46 w (by rw [← hl]; exact hc) h hs
  have TN : Hid (∀ i w, i ≤ s.size → ¬ l[i]? = some 46 → RS b s i w → Calls Tryd.prog 54 #[.pointer (some ⟨b, 0, none⟩), .string ⟨#[46]⟩] w fun e w' => e = .returned (.bool false) ∧ RS b s i w' ∧ w.grownBy w' (some b)) := fun i w hi hc h => take_no b s i 46 w hi (by rw [← hl]; exact hc) h hs
  have HI : Hid (RS b s 0 w ∧ VB v 0 0 0 w) := ⟨h, hv⟩
  have HBV : Hid (b ≠ v) := hbv
  have HNL : Hid (∀ i, i ≤ s.size → (rdNum l i).2.2 ≤ s.size) := fun i hi => by have := num_le l i (by rw [hll]; exact hi); rw [hll] at this; exact this
  clear hl hll hR HNR h hv hbv hs
  go_enter Tryd.func45, Tryd.ntmps45
  go_wp2
  go_quiet (fail)
  go_wp2
  go_loopw [18] (fun vi wr => ∃ (k j : Nat) (x1 x2 x3 : Int), vi = .int .i64 k ∧ j ≤ s.size ∧ RS b s j wr ∧ VB v x1 x2 x3 wr ∧ G2 b v w wr ∧ ((k = 0 ∧ j = 0 ∧ x2 = 0 ∧ x3 = 0) ∨ (k = 1 ∧ R = rest1 l j x1 ∧ x3 = 0) ∨ (k = 2 ∧ R = rest2 l j x1 x2) ∨ (k = 3 ∧ R = rest3 l j x1 x2 x3))) (fun vi _ => 3 - (intOf vi).toNat)
  case atStart => exact ⟨0, 0, 0, 0, 0, rfl, Nat.zero_le _, HI.out.1.drew _, HI.out.2.drew _, (G2.refl b v w).drew _, Or.inl ⟨rfl, rfl, rfl, rfl⟩⟩
  case round =>
    obtain ⟨k, j, x1, x2, x3, rfl, hj, hrs, hvb, hg2, hcase⟩ := hrel
    have HJ : Hid (j ≤ s.size) := hj
    have HRS : Hid (RS b s j wr) := hrs
    have HVB : Hid (VB v x1 x2 x3 wr) := hvb
    have HG : Hid (G2 b v w wr) := hg2
    clear hj hrs hvb hg2
    rcases hcase with ⟨rfl, rfl, hx2, hx3⟩ | ⟨rfl, hrk, hx3⟩ | ⟨rfl, hrk⟩ | ⟨rfl, hrk⟩
    · have ix := ip0 v wr
      have HX3 : Hid (x3 = 0) := hx3
      have HRk : Hid (R = if (rdNum l 0).1 = 0 then rest1 l (rdNum l 0).2.2 (rdNum l 0).2.1 else ((rdNum l 0).1, (rdNum l 0).2.2, 0, 0, 0)) := HR.out
      have HJn : Hid (0 ≤ s.size) := HJ.out
      have HRSn : Hid (RS b s 0 wr) := HRS.out
      have HVn : Hid (VB v x1 x2 x3 wr) := HVB.out
      have HGn : Hid (G2 b v w wr) := HG.out
      clear hx2 hx3 HR
      have CNJ : Hid (Calls Tryd.prog 59 #[.pointer (some ⟨b, 0, none⟩)] wr fun e w' => e = .returned (.tuple #[.int .i64 (rdNum l (0)).2.1, .int .i64 (rdNum l (0)).1]) ∧ RS b s (rdNum l (0)).2.2 w' ∧ wr.grownBy w' (some b)) := CN.out (0) wr HJn.out HRSn.out
      have HLq : Hid ((rdNum l (0)).2.2 ≤ s.size) := HNL.out (0) HJn.out
      obtain ⟨E, hE⟩ : ∃ E, (rdNum l (0)).1 = E := ⟨_, rfl⟩
      obtain ⟨V, hV⟩ : ∃ V, (rdNum l (0)).2.1 = V := ⟨_, rfl⟩
      obtain ⟨Q, hQ⟩ : ∃ Q, (rdNum l (0)).2.2 = Q := ⟨_, rfl⟩
      rw [hE, hV, hQ] at CNJ
      rw [hQ] at HLq
      rw [hE, hV, hQ] at HRk
      clear hE hV hQ
      go_wp2_with (go_at_call 59; refine CNJ.out.mono ?_)
      rintro e wq ⟨rfl, hrq, hgq⟩
      have HVq : Hid (VB v x1 x2 x3 wq) := HVn.out.grow hgq (Ne.symm HBV.out)
      have HGq : Hid (G2 b v w wq) := HGn.out.step hgq
      have HRq : Hid (RS b s Q wq) := hrq
      clear hrq hgq
      have cc := HVq.out.cell.1
      have ff := HVq.out.f 0
      cases hz : (E == 0) with
      | false =>
        have HZ : Hid (R = (E, Q, 0, 0, 0)) := by show R = _; rw [HRk.out, if_neg (by simpa using hz)]
        go_wp2
        go_ret
        refine ⟨ret_int (by rw [HZ.out]), by rw [HZ.out]; exact HRq.out.other HBV.out _ _, ⟨_, _, _, HVq.out.set0 _, fun hh => ?_⟩, HGq.out.set _ _⟩
        rw [HZ.out] at hh
        exact absurd hh (by simpa using hz)
      | true =>
        have HZ : Hid (R = rest1 l Q V) := by show R = _; rw [HRk.out, if_pos (by simpa using hz)]
        go_wp2
        go_roundw
        case rel => exact ⟨1, Q, V, x2, x3, rfl, HLq.out, HRq.out.other HBV.out _ _, HVq.out.set0 _, HGq.out.set _ _, Or.inr (Or.inl ⟨rfl, HZ.out, HX3.out⟩)⟩
        case measure => simp [intOf]
    · have ix := ip1 v wr
      have HX3 : Hid (x3 = 0) := hx3
      have HRr : Hid (R = rest1 l j x1) := hrk
      clear hrk hx3
      cases hc : decide (l[j]? = some 46) with
      | false =>
        have hc' := of_decide_eq_false hc
        have HZ : Hid (R = (2, j, 0, 0, 0)) := by show R = _; rw [HRr.out]; unfold rest1; rw [if_neg hc']
        have CT : Hid (Calls Tryd.prog 54 #[.pointer (some ⟨b, 0, none⟩), .string ⟨#[46]⟩] wr fun e w' => e = .returned (.bool false) ∧ RS b s j w' ∧ wr.grownBy w' (some b)) := TN.out j wr HJ.out hc' HRS.out
        clear hc hc'
        go_wp2_with (go_at_call 54; refine CT.out.mono ?_)
        rintro e wt ⟨rfl, hrt, hgt⟩
        have HF : Hid (RS b s j wt ∧ G2 b v w wt) := ⟨hrt, HG.out.step hgt⟩
        have HVt : Hid (VB v x1 x2 x3 wt) := HVB.out.grow hgt (Ne.symm HBV.out)
        clear hrt hgt
        go_wp2
        go_ret
        refine ⟨ret_int (by rw [HZ.out]), by rw [HZ.out]; exact HF.out.1, ⟨_, _, _, HVt.out, fun hh => ?_⟩, HF.out.2⟩
        rw [HZ.out] at hh
        exact absurd hh (by show ¬ (2 : Int) = 0; decide)
      | true =>
        have hc' := of_decide_eq_true hc
        have HRk : Hid (R = if (rdNum l (j + 1)).1 = 0 then rest2 l (rdNum l (j + 1)).2.2 x1 (rdNum l (j + 1)).2.1 else ((rdNum l (j + 1)).1, (rdNum l (j + 1)).2.2, 0, 0, 0)) := by show R = _; rw [HRr.out]; unfold rest1; rw [if_pos hc']
        have CT : Hid (Calls Tryd.prog 54 #[.pointer (some ⟨b, 0, none⟩), .string ⟨#[46]⟩] wr fun e w' => e = .returned (.bool true) ∧ RS b s (j + 1) w' ∧ wr.grownBy w' (some b)) := TY.out j wr hc' HRS.out
        have HJn : Hid (j + 1 ≤ s.size) := by have := (List.getElem?_eq_some_iff.1 hc').1; rw [HLL.out] at this; exact this
        clear hc hc'
        go_wp2_with (go_at_call 54; refine CT.out.mono ?_)
        rintro e wt ⟨rfl, hrt, hgt⟩
        have HRSn : Hid (RS b s (j + 1) wt) := hrt
        have HVn : Hid (VB v x1 x2 x3 wt) := HVB.out.grow hgt (Ne.symm HBV.out)
        have HGn : Hid (G2 b v w wt) := HG.out.step hgt
        clear hrt hgt
        have CNJ : Hid (Calls Tryd.prog 59 #[.pointer (some ⟨b, 0, none⟩)] wt fun e w' => e = .returned (.tuple #[.int .i64 (rdNum l (j + 1)).2.1, .int .i64 (rdNum l (j + 1)).1]) ∧ RS b s (rdNum l (j + 1)).2.2 w' ∧ wt.grownBy w' (some b)) := CN.out (j + 1) wt HJn.out HRSn.out
        have HLq : Hid ((rdNum l (j + 1)).2.2 ≤ s.size) := HNL.out (j + 1) HJn.out
        obtain ⟨E, hE⟩ : ∃ E, (rdNum l (j + 1)).1 = E := ⟨_, rfl⟩
        obtain ⟨V, hV⟩ : ∃ V, (rdNum l (j + 1)).2.1 = V := ⟨_, rfl⟩
        obtain ⟨Q, hQ⟩ : ∃ Q, (rdNum l (j + 1)).2.2 = Q := ⟨_, rfl⟩
        rw [hE, hV, hQ] at CNJ
        rw [hQ] at HLq
        rw [hE, hV, hQ] at HRk
        clear hE hV hQ
        go_wp2_with (go_at_call 59; refine CNJ.out.mono ?_)
        rintro e wq ⟨rfl, hrq, hgq⟩
        have HVq : Hid (VB v x1 x2 x3 wq) := HVn.out.grow hgq (Ne.symm HBV.out)
        have HGq : Hid (G2 b v w wq) := HGn.out.step hgq
        have HRq : Hid (RS b s Q wq) := hrq
        clear hrq hgq
        have cc := HVq.out.cell.2.1
        have ff := HVq.out.f 1
        cases hz : (E == 0) with
        | false =>
          have HZ : Hid (R = (E, Q, 0, 0, 0)) := by show R = _; rw [HRk.out, if_neg (by simpa using hz)]
          go_wp2
          go_ret
          refine ⟨ret_int (by rw [HZ.out]), by rw [HZ.out]; exact HRq.out.other HBV.out _ _, ⟨_, _, _, HVq.out.set1 _, fun hh => ?_⟩, HGq.out.set _ _⟩
          rw [HZ.out] at hh
          exact absurd hh (by simpa using hz)
        | true =>
          have HZ : Hid (R = rest2 l Q x1 V) := by show R = _; rw [HRk.out, if_pos (by simpa using hz)]
          go_wp2
          go_roundw
          case rel => exact ⟨2, Q, x1, V, x3, rfl, HLq.out, HRq.out.other HBV.out _ _, HVq.out.set1 _, HGq.out.set _ _, Or.inr (Or.inr (Or.inl ⟨rfl, HZ.out⟩))⟩
          case measure => simp [intOf]
    · have ix := ip2 v wr
      have HRr : Hid (R = rest2 l j x1 x2) := hrk
      clear hrk
      cases hc : decide (l[j]? = some 46) with
      | false =>
        have hc' := of_decide_eq_false hc
        have HZ : Hid (R = (2, j, 0, 0, 0)) := by show R = _; rw [HRr.out]; unfold rest2; rw [if_neg hc']
        have CT : Hid (Calls Tryd.prog 54 #[.pointer (some ⟨b, 0, none⟩), .string ⟨#[46]⟩] wr fun e w' => e = .returned (.bool false) ∧ RS b s j w' ∧ wr.grownBy w' (some b)) := TN.out j wr HJ.out hc' HRS.out
        clear hc hc'
        go_wp2_with (go_at_call 54; refine CT.out.mono ?_)
        rintro e wt ⟨rfl, hrt, hgt⟩
        have HF : Hid (RS b s j wt ∧ G2 b v w wt) := ⟨hrt, HG.out.step hgt⟩
        have HVt : Hid (VB v x1 x2 x3 wt) := HVB.out.grow hgt (Ne.symm HBV.out)
        clear hrt hgt
        go_wp2
        go_ret
        refine ⟨ret_int (by rw [HZ.out]), by rw [HZ.out]; exact HF.out.1, ⟨_, _, _, HVt.out, fun hh => ?_⟩, HF.out.2⟩
        rw [HZ.out] at hh
        exact absurd hh (by show ¬ (2 : Int) = 0; decide)
      | true =>
        have hc' := of_decide_eq_true hc
        have HRk : Hid (R = if (rdNum l (j + 1)).1 = 0 then rest3 l (rdNum l (j + 1)).2.2 x1 x2 (rdNum l (j + 1)).2.1 else ((rdNum l (j + 1)).1, (rdNum l (j + 1)).2.2, 0, 0, 0)) := by show R = _; rw [HRr.out]; unfold rest2; rw [if_pos hc']
        have CT : Hid (Calls Tryd.prog 54 #[.pointer (some ⟨b, 0, none⟩), .string ⟨#[46]⟩] wr fun e w' => e = .returned (.bool true) ∧ RS b s (j + 1) w' ∧ wr.grownBy w' (some b)) := TY.out j wr hc' HRS.out
        have HJn : Hid (j + 1 ≤ s.size) := by have := (List.getElem?_eq_some_iff.1 hc').1; rw [HLL.out] at this; exact this
        clear hc hc'
        go_wp2_with (go_at_call 54; refine CT.out.mono ?_)
        rintro e wt ⟨rfl, hrt, hgt⟩
        have HRSn : Hid (RS b s (j + 1) wt) := hrt
        have HVn : Hid (VB v x1 x2 x3 wt) := HVB.out.grow hgt (Ne.symm HBV.out)
        have HGn : Hid (G2 b v w wt) := HG.out.step hgt
        clear hrt hgt
        have CNJ : Hid (Calls Tryd.prog 59 #[.pointer (some ⟨b, 0, none⟩)] wt fun e w' => e = .returned (.tuple #[.int .i64 (rdNum l (j + 1)).2.1, .int .i64 (rdNum l (j + 1)).1]) ∧ RS b s (rdNum l (j + 1)).2.2 w' ∧ wt.grownBy w' (some b)) := CN.out (j + 1) wt HJn.out HRSn.out
        have HLq : Hid ((rdNum l (j + 1)).2.2 ≤ s.size) := HNL.out (j + 1) HJn.out
        obtain ⟨E, hE⟩ : ∃ E, (rdNum l (j + 1)).1 = E := ⟨_, rfl⟩
        obtain ⟨V, hV⟩ : ∃ V, (rdNum l (j + 1)).2.1 = V := ⟨_, rfl⟩
        obtain ⟨Q, hQ⟩ : ∃ Q, (rdNum l (j + 1)).2.2 = Q := ⟨_, rfl⟩
        rw [hE, hV, hQ] at CNJ
        rw [hQ] at HLq
        rw [hE, hV, hQ] at HRk
        clear hE hV hQ
        go_wp2_with (go_at_call 59; refine CNJ.out.mono ?_)
        rintro e wq ⟨rfl, hrq, hgq⟩
        have HVq : Hid (VB v x1 x2 x3 wq) := HVn.out.grow hgq (Ne.symm HBV.out)
        have HGq : Hid (G2 b v w wq) := HGn.out.step hgq
        have HRq : Hid (RS b s Q wq) := hrq
        clear hrq hgq
        have cc := HVq.out.cell.2.2
        have ff := HVq.out.f 2
        cases hz : (E == 0) with
        | false =>
          have HZ : Hid (R = (E, Q, 0, 0, 0)) := by show R = _; rw [HRk.out, if_neg (by simpa using hz)]
          go_wp2
          go_ret
          refine ⟨ret_int (by rw [HZ.out]), by rw [HZ.out]; exact HRq.out.other HBV.out _ _, ⟨_, _, _, HVq.out.set2 _, fun hh => ?_⟩, HGq.out.set _ _⟩
          rw [HZ.out] at hh
          exact absurd hh (by simpa using hz)
        | true =>
          have HZ : Hid (R = rest3 l Q x1 x2 V) := by show R = _; rw [HRk.out, if_pos (by simpa using hz)]
          go_wp2
          go_roundw
          case rel => exact ⟨3, Q, x1, x2, V, rfl, HLq.out, HRq.out.other HBV.out _ _, HVq.out.set2 _, HGq.out.set _ _, Or.inr (Or.inr (Or.inr ⟨rfl, HZ.out⟩))⟩
          case measure => simp [intOf]
    · have HZ : Hid (R = (0, j, x1, x2, x3)) := hrk
      clear hrk
      go_wp2
      go_ret
      refine ⟨ret_int (by rw [HZ.out]), by rw [HZ.out]; exact HRS.out, ⟨_, _, _, HVB.out, fun _ => by rw [HZ.out]⟩, HG.out⟩
end Go.Proofs.YtlfekpgoibgplaaDoor
