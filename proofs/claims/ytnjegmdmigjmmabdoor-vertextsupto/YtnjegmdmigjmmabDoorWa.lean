/-
  The reader's small functions, walked.
-/
import Derived.Test.YtnjegmdmigjmmabDoorWo
namespace Go.Proofs.YtnjegmdmigjmmabDoor
open Go.RowKit
set_option linter.unusedVariables false

set_option maxHeartbeats 400000 in
theorem isPartByte_any (c : UInt8) (w : World) : Calls Tryd.prog 50 #[.int .u8 (c.toNat : Int)] w fun e w' => e = .returned (.bool (isP c)) ∧ w' = w := by
  go_enter Tryd.func50, Tryd.ntmps50
  go_wp2_with (go_at_call 63; refine (isDigit_any _ _).mono ?_; rintro e w' ⟨rfl, rfl⟩)
  all_goals go_ret
  all_goals (refine ⟨ret_bool ?_, rfl⟩; rw [Bool.eq_iff_iff]; unfold isP; simp_all; try omega)

/-- a reader at block b: its text, its place -/
def RS (b : Nat) (s : ByteArray) (i : Nat) (w : World) : Prop := w.heap[b]? = some (.cells #[.string s, .int .i64 (i : Int)] 53 (0, 0))
theorem RS.c0 {b : Nat} {s : ByteArray} {i : Nat} {w : World} (h : RS b s i w) : w.cell? ⟨b, 0, none⟩ = some (.string s) := by rw [Lib.cell_of_heap h]; rfl
theorem RS.c1 {b : Nat} {s : ByteArray} {i : Nat} {w : World} (h : RS b s i w) : w.cell? ⟨b, 1, none⟩ = some (.int .i64 (i : Int)) := by rw [Lib.cell_of_heap h]; rfl
theorem RS.f1 {b : Nat} {s : ByteArray} {i : Nat} {w : World} (h : RS b s i w) : w.frozen? ⟨b, 1, none⟩ = false := Lib.frozen_of_heap h 1
theorem RS.drew {b : Nat} {s : ByteArray} {i : Nat} {w : World} (h : RS b s i w) (n : Nat) : RS b s i (w.drewN n) := h
theorem RS.set {b : Nat} {s : ByteArray} {i : Nat} {w : World} (h : RS b s i w) (j : Nat) : RS b s j (w.setCell ⟨b, 1, none⟩ (.int .i64 (j : Int))) := by
  unfold RS at h ⊢
  simp [World.setCell, Array.getElem?_modify, h]
set_option maxHeartbeats 400000 in
theorem take_yes (b : Nat) (s : ByteArray) (i : Nat) (c : UInt8) (w : World) (hc : s.data.toList[i]? = some c) (h : RS b s i w) (hs : s.size < 2 ^ 62) :
    Calls Tryd.prog 44 #[.pointer (some ⟨b, 0, none⟩), .int .u8 (c.toNat : Int)] w fun e w' => e = .returned (.bool true) ∧ RS b s (i + 1) w' ∧ w.grownBy w' (some b) := by
  have h0 := h.c0
  have h1 := h.c1
  have hf := h.f1
  have HR : Hid (RS b s i w) := h
  clear h
  have hlt : i < s.size := by have := (List.getElem?_eq_some_iff.1 hc).1; simpa using this
  rw [get_data s i hlt] at hc
  have hc' : s[i] = c := Option.some.inj hc
  clear hc
  subst hc'
  have hd : ((i : Int) == (s.size : Int)) = false := by simp; omega
  have hw : IntKind.i64.wrap ((i : Int) + 1) = ((i + 1 : Nat) : Int) := by rw [IntKind.wrap_i64]; omega
  go_enter Tryd.func44, Tryd.ntmps44
  go_wp2
  go_quiet (fail)
  go_wp2
  go_ret
  exact ⟨rfl, (HR.out.drew nq).set (i + 1), gb_set (gb_drew (gb_refl w _) _) _ _⟩

set_option maxHeartbeats 400000 in
theorem take_no (b : Nat) (s : ByteArray) (i : Nat) (c : UInt8) (w : World) (hi : i ≤ s.size) (hc : ¬ s.data.toList[i]? = some c) (h : RS b s i w) (hs : s.size < 2 ^ 62) :
    Calls Tryd.prog 44 #[.pointer (some ⟨b, 0, none⟩), .int .u8 (c.toNat : Int)] w fun e w' => e = .returned (.bool false) ∧ RS b s i w' ∧ w.grownBy w' (some b) := by
  have h0 := h.c0
  have h1 := h.c1
  have HR : Hid (RS b s i w) := h
  clear h
  by_cases hlt : i < s.size
  · rw [get_data s i hlt] at hc
    have hne : s[i] ≠ c := fun e => hc (by rw [e])
    have hn : ((s[i].toNat : Int) == (c.toNat : Int)) = false := by
      simp only [beq_eq_false_iff_ne, ne_eq]
      intro e
      exact hne (UInt8.toNat_inj.1 (by omega))
    have hd : ((i : Int) == (s.size : Int)) = false := by simp; omega
    clear hc hne
    go_enter Tryd.func44, Tryd.ntmps44
    go_wp2
    go_quiet (fail)
    go_wp2
    all_goals go_ret
    all_goals exact ⟨rfl, HR.out.drew _, gb_drew (gb_refl w _) _⟩
  · have hd : ((i : Int) == (s.size : Int)) = true := by simp; omega
    clear hc
    go_enter Tryd.func44, Tryd.ntmps44
    go_wp2
    go_quiet (fail)
    go_wp2
    all_goals go_ret
    all_goals exact ⟨rfl, HR.out.drew _, gb_drew (gb_refl w _) _⟩
end Go.Proofs.YtnjegmdmigjmmabDoor
