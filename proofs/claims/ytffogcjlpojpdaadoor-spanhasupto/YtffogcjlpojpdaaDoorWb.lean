/-
  A run of bytes, walked.
-/
import Derived.Test.YtffogcjlpojpdaaDoorWa
namespace Go.Proofs.YtffogcjlpojpdaaDoor
open Go.RowKit
set_option linter.unusedVariables false

/-- where the reader at b stands, as a number -/
def placeOf (b : Nat) (w : World) : Nat := match w.cell? ⟨b, 1, none⟩ with | some (.int .i64 x) => x.toNat | _ => 0
theorem RS.place {b : Nat} {s : ByteArray} {i : Nat} {w : World} (h : RS b s i w) : placeOf b w = i := by unfold placeOf; rw [h.c1]; simp
set_option maxHeartbeats 800000 in
theorem run_digits (b : Nat) (s : ByteArray) (i : Nat) (w : World) (hi : i ≤ s.size) (h : RS b s i w) (hs : s.size < 2 ^ 62) :
    Calls Tryd.prog 60 #[.pointer (some ⟨b, 0, none⟩), .func (.func 55) #[] #[]] w fun e w' => e = .returned (.string ⟨(subT s.data.toList i (runN isD s.data.toList i)).toArray⟩) ∧ RS b s (i + runN isD s.data.toList i) w' ∧ w.grownBy w' (some b) := by
  have h0 := h.c0
  have h1 := h.c1
  have HR : Hid (RS b s i w) := h
  obtain ⟨N, hN⟩ : ∃ N, i + runN isD s.data.toList i = N := ⟨_, rfl⟩
  have HN : Hid (N ≤ s.size) := by
    show N ≤ s.size
    have := runN_le isD s.data.toList i (by simpa using hi)
    simp at this; omega
  have HA : Hid (∀ j, i ≤ j → (hj : j < s.size) → j < N → isD s[j] = true) := by
    show ∀ j, i ≤ j → (hj : j < s.size) → j < N → isD s[j] = true
    intro j h1 hj h2
    obtain ⟨g1, g2⟩ := runN_at isD s.data.toList i (j - i) (by omega)
    have e : i + (j - i) = j := by omega
    simp only [e] at g2
    exact g2
  have HS : Hid (∀ hj : N < s.size, isD s[N] = false) := by
    show ∀ hj : N < s.size, isD s[N] = false
    intro hj
    have := runN_stop isD s.data.toList i (by rw [hN]; simpa using hj)
    simp only [hN] at this
    exact this
  have HT : Hid (runN isD s.data.toList i = N - i ∧ i ≤ N) := ⟨by omega, by omega⟩
  have HI : Hid (i ≤ s.size) := hi
  rw [show runN isD s.data.toList i = N - i by omega]
  obtain ⟨X, hX⟩ : ∃ X : List UInt8, X = subT s.data.toList i (N - i) := ⟨_, rfl⟩
  have hsl : ∀ wx, (Instr.slice 9 (.string s) (some (.int .i64 (i : Int))) (some (.int .i64 (N : Int))) none).run Tryd.prog wx = .ok (.string ⟨X.toArray⟩) wx := fun wx => by rw [hX]; exact run_sub s i N (by omega) HN.out wx
  rw [← hX, show i + (N - i) = N by omega]
  clear h hN hi hX
  go_enter Tryd.func60, Tryd.ntmps60
  go_wp2
  go_loopw [] (fun wr => ∃ j : Nat, i ≤ j ∧ j ≤ N ∧ RS b s j wr ∧ w.grownBy wr (some b)) (fun wr => s.size - placeOf b wr)
  case atStart => exact ⟨i, Nat.le_refl _, HT.out.2, HR.out, gb_refl _ _⟩
  case round =>
    obtain ⟨j, hij, hjn, hrs, hgb⟩ := hrel
    have d0 := hrs.c0
    have d1 := hrs.c1
    have df := hrs.f1
    have HRS : Hid (RS b s j wr) := hrs
    have HGB : Hid (w.grownBy wr (some b)) := hgb
    have hns := HN.out
    clear hrs hgb h0 h1
    by_cases hlt : j < N
    · have hjs : j < s.size := by omega
      have hD : isD s[j] = true := HA.out j hij hjs hlt
      have HK : Hid (i ≤ j ∧ j < N) := ⟨hij, hlt⟩
      clear hlt hjn hns hij
      have hlt2 : (j : Int) < (s.size : Int) := by omega
      go_wp2
      go_quiet (first | (go_at_call 55; exact Calls.quiet_of_same (isDigit_any _ _)))
      go_wp2
      go_roundw
      case rel =>
        have := HK.out
        exact ⟨j + 1, by omega, by omega, (HRS.out.drew _).set (j + 1), gb_set (gb_drew HGB.out _) _ _⟩
      case measure =>
        have e1 := HRS.out.place
        have e2 := ((HRS.out.drew nq).set (j + 1)).place
        rw [e1]
        exact Nat.lt_of_le_of_lt (Nat.le_of_eq (congrArg (s.size - ·) e2)) (by omega)
    · have hjN : j = N := by omega
      subst hjN
      by_cases hjs : j < s.size
      · have hD : isD s[j] = false := HS.out hjs
        have hlt2 : (j : Int) < (s.size : Int) := by omega
        clear hlt hjn hns hij
        go_wp2
        go_quiet (first | (go_at_call 55; exact Calls.quiet_of_same (isDigit_any _ _)))
        go_wp2
        obtain ⟨W, hW⟩ : ∃ W, wr.drewN nq = W := ⟨_, rfl⟩
        have e0 : W.cell? ⟨b, 0, none⟩ = some (.string s) := by rw [← hW]; exact d0
        have e1 : W.cell? ⟨b, 1, none⟩ = some (.int .i64 (j : Int)) := by rw [← hW]; exact d1
        have HW : Hid (RS b s j W ∧ w.grownBy W (some b)) := by
          show RS b s j W ∧ w.grownBy W (some b)
          rw [← hW]; exact ⟨HRS.out.drew _, gb_drew HGB.out _⟩
        rw [hW]
        clear hW d0 d1 df HRS HGB
        go_quiet (fail)
        go_wp2
        go_ret
        exact ⟨rfl, HW.out.1.drew _, gb_drew HW.out.2 _⟩
      · have hd2 : decide ((j : Int) < (s.size : Int)) = false := by simp; omega
        clear hlt hjn hns hij
        go_wp2
        go_quiet (fail)
        go_wp2
        obtain ⟨W, hW⟩ : ∃ W, wr.drewN nq = W := ⟨_, rfl⟩
        have e0 : W.cell? ⟨b, 0, none⟩ = some (.string s) := by rw [← hW]; exact d0
        have e1 : W.cell? ⟨b, 1, none⟩ = some (.int .i64 (j : Int)) := by rw [← hW]; exact d1
        have HW : Hid (RS b s j W ∧ w.grownBy W (some b)) := by
          show RS b s j W ∧ w.grownBy W (some b)
          rw [← hW]; exact ⟨HRS.out.drew _, gb_drew HGB.out _⟩
        rw [hW]
        clear hW d0 d1 df HRS HGB
        go_quiet (fail)
        go_wp2
        go_ret
        exact ⟨rfl, HW.out.1.drew _, gb_drew HW.out.2 _⟩

set_option maxHeartbeats 800000 in
theorem run_parts (b : Nat) (s : ByteArray) (i : Nat) (w : World) (hi : i ≤ s.size) (h : RS b s i w) (hs : s.size < 2 ^ 62) :
    Calls Tryd.prog 60 #[.pointer (some ⟨b, 0, none⟩), .func (.func 61) #[] #[]] w fun e w' => e = .returned (.string ⟨(subT s.data.toList i (runN isP s.data.toList i)).toArray⟩) ∧ RS b s (i + runN isP s.data.toList i) w' ∧ w.grownBy w' (some b) := by
  have h0 := h.c0
  have h1 := h.c1
  have HR : Hid (RS b s i w) := h
  obtain ⟨N, hN⟩ : ∃ N, i + runN isP s.data.toList i = N := ⟨_, rfl⟩
  have HN : Hid (N ≤ s.size) := by
    show N ≤ s.size
    have := runN_le isP s.data.toList i (by simpa using hi)
    simp at this; omega
  have HA : Hid (∀ j, i ≤ j → (hj : j < s.size) → j < N → isP s[j] = true) := by
    show ∀ j, i ≤ j → (hj : j < s.size) → j < N → isP s[j] = true
    intro j h1 hj h2
    obtain ⟨g1, g2⟩ := runN_at isP s.data.toList i (j - i) (by omega)
    have e : i + (j - i) = j := by omega
    simp only [e] at g2
    exact g2
  have HS : Hid (∀ hj : N < s.size, isP s[N] = false) := by
    show ∀ hj : N < s.size, isP s[N] = false
    intro hj
    have := runN_stop isP s.data.toList i (by rw [hN]; simpa using hj)
    simp only [hN] at this
    exact this
  have HT : Hid (runN isP s.data.toList i = N - i ∧ i ≤ N) := ⟨by omega, by omega⟩
  have HI : Hid (i ≤ s.size) := hi
  rw [show runN isP s.data.toList i = N - i by omega]
  obtain ⟨X, hX⟩ : ∃ X : List UInt8, X = subT s.data.toList i (N - i) := ⟨_, rfl⟩
  have hsl : ∀ wx, (Instr.slice 9 (.string s) (some (.int .i64 (i : Int))) (some (.int .i64 (N : Int))) none).run Tryd.prog wx = .ok (.string ⟨X.toArray⟩) wx := fun wx => by rw [hX]; exact run_sub s i N (by omega) HN.out wx
  rw [← hX, show i + (N - i) = N by omega]
  clear h hN hi hX
  go_enter Tryd.func60, Tryd.ntmps60
  go_wp2
  go_loopw [] (fun wr => ∃ j : Nat, i ≤ j ∧ j ≤ N ∧ RS b s j wr ∧ w.grownBy wr (some b)) (fun wr => s.size - placeOf b wr)
  case atStart => exact ⟨i, Nat.le_refl _, HT.out.2, HR.out, gb_refl _ _⟩
  case round =>
    obtain ⟨j, hij, hjn, hrs, hgb⟩ := hrel
    have d0 := hrs.c0
    have d1 := hrs.c1
    have df := hrs.f1
    have HRS : Hid (RS b s j wr) := hrs
    have HGB : Hid (w.grownBy wr (some b)) := hgb
    have hns := HN.out
    clear hrs hgb h0 h1
    by_cases hlt : j < N
    · have hjs : j < s.size := by omega
      have hD : isP s[j] = true := HA.out j hij hjs hlt
      have HK : Hid (i ≤ j ∧ j < N) := ⟨hij, hlt⟩
      clear hlt hjn hns hij
      have hlt2 : (j : Int) < (s.size : Int) := by omega
      go_wp2
      go_quiet (first | (go_at_call 61; exact Calls.quiet_of_same (isPartByte_any _ _)))
      go_wp2
      go_roundw
      case rel =>
        have := HK.out
        exact ⟨j + 1, by omega, by omega, (HRS.out.drew _).set (j + 1), gb_set (gb_drew HGB.out _) _ _⟩
      case measure =>
        have e1 := HRS.out.place
        have e2 := ((HRS.out.drew nq).set (j + 1)).place
        rw [e1]
        exact Nat.lt_of_le_of_lt (Nat.le_of_eq (congrArg (s.size - ·) e2)) (by omega)
    · have hjN : j = N := by omega
      subst hjN
      by_cases hjs : j < s.size
      · have hD : isP s[j] = false := HS.out hjs
        have hlt2 : (j : Int) < (s.size : Int) := by omega
        clear hlt hjn hns hij
        go_wp2
        go_quiet (first | (go_at_call 61; exact Calls.quiet_of_same (isPartByte_any _ _)))
        go_wp2
        obtain ⟨W, hW⟩ : ∃ W, wr.drewN nq = W := ⟨_, rfl⟩
        have e0 : W.cell? ⟨b, 0, none⟩ = some (.string s) := by rw [← hW]; exact d0
        have e1 : W.cell? ⟨b, 1, none⟩ = some (.int .i64 (j : Int)) := by rw [← hW]; exact d1
        have HW : Hid (RS b s j W ∧ w.grownBy W (some b)) := by
          show RS b s j W ∧ w.grownBy W (some b)
          rw [← hW]; exact ⟨HRS.out.drew _, gb_drew HGB.out _⟩
        rw [hW]
        clear hW d0 d1 df HRS HGB
        go_quiet (fail)
        go_wp2
        go_ret
        exact ⟨rfl, HW.out.1.drew _, gb_drew HW.out.2 _⟩
      · have hd2 : decide ((j : Int) < (s.size : Int)) = false := by simp; omega
        clear hlt hjn hns hij
        go_wp2
        go_quiet (fail)
        go_wp2
        obtain ⟨W, hW⟩ : ∃ W, wr.drewN nq = W := ⟨_, rfl⟩
        have e0 : W.cell? ⟨b, 0, none⟩ = some (.string s) := by rw [← hW]; exact d0
        have e1 : W.cell? ⟨b, 1, none⟩ = some (.int .i64 (j : Int)) := by rw [← hW]; exact d1
        have HW : Hid (RS b s j W ∧ w.grownBy W (some b)) := by
          show RS b s j W ∧ w.grownBy W (some b)
          rw [← hW]; exact ⟨HRS.out.drew _, gb_drew HGB.out _⟩
        rw [hW]
        clear hW d0 d1 df HRS HGB
        go_quiet (fail)
        go_wp2
        go_ret
        exact ⟨rfl, HW.out.1.drew _, gb_drew HW.out.2 _⟩

end Go.Proofs.YtffogcjlpojpdaaDoor
