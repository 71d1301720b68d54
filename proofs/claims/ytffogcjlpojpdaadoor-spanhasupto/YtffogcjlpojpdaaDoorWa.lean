/-
  The reader's small functions, walked.
-/
import Derived.Test.YtffogcjlpojpdaaDoorId
import Derived.Test.YtffogcjlpojpdaaDoorShelf4
namespace Go.Proofs.YtffogcjlpojpdaaDoor
open Go.RowKit
set_option linter.unusedVariables false

set_option maxHeartbeats 400000 in
theorem isPartByte_any (c : UInt8) (w : World) : Calls Tryd.prog 61 #[.int .u8 (c.toNat : Int)] w fun e w' => e = .returned (.bool (isP c)) ∧ w' = w := by
  go_enter Tryd.func61, Tryd.ntmps61
  go_wp2_with (go_at_call 55; refine (isDigit_any _ _).mono ?_; rintro e w' ⟨rfl, rfl⟩)
  all_goals go_ret
  all_goals (refine ⟨ret_bool ?_, rfl⟩; rw [Bool.eq_iff_iff]; unfold isP; simp_all; try omega)

/-- a reader at block b: its text, its place -/
def RS (b : Nat) (s : ByteArray) (i : Nat) (w : World) : Prop := w.heap[b]? = some (.cells #[.string s, .int .i64 (i : Int)] 86 (0, 0))
theorem RS.c0 {b : Nat} {s : ByteArray} {i : Nat} {w : World} (h : RS b s i w) : w.cell? ⟨b, 0, none⟩ = some (.string s) := by rw [Lib.cell_of_heap h]; rfl
theorem RS.c1 {b : Nat} {s : ByteArray} {i : Nat} {w : World} (h : RS b s i w) : w.cell? ⟨b, 1, none⟩ = some (.int .i64 (i : Int)) := by rw [Lib.cell_of_heap h]; rfl
theorem RS.f1 {b : Nat} {s : ByteArray} {i : Nat} {w : World} (h : RS b s i w) : w.frozen? ⟨b, 1, none⟩ = false := Lib.frozen_of_heap h 1
theorem RS.drew {b : Nat} {s : ByteArray} {i : Nat} {w : World} (h : RS b s i w) (n : Nat) : RS b s i (w.drewN n) := h
theorem RS.set {b : Nat} {s : ByteArray} {i : Nat} {w : World} (h : RS b s i w) (j : Nat) : RS b s j (w.setCell ⟨b, 1, none⟩ (.int .i64 (j : Int))) := by
  unfold RS at h ⊢
  simp [World.setCell, Array.getElem?_modify, h]
theorem prefix_any (s p : ByteArray) (w : World) :
    Calls Tryd.prog 92 #[.string s, .string p] w fun e w' => e = .returned (.bool (Lib.hasPrefix s.data.toList p.data.toList)) ∧ w' = w := Any.strings_HasPrefix Tryd.lays99 s p w

set_option maxHeartbeats 400000 in
theorem next_any (b : Nat) (s t : ByteArray) (i : Nat) (w : World) (hi : i ≤ s.size) (h : RS b s i w) :
    Calls Tryd.prog 75 #[.pointer (some ⟨b, 0, none⟩), .string t] w fun e w' => e = .returned (.bool (Lib.hasPrefix (s.data.toList.drop i) t.data.toList)) ∧ ∃ n, w' = w.drewN n := by
  have h0 := h.c0
  have h1 := h.c1
  obtain ⟨X, hX⟩ : ∃ X : ByteArray, X = ⟨(s.data.toList.drop i).toArray⟩ := ⟨_, rfl⟩
  have sl : ∀ wx, (Instr.slice 9 (.string s) (some (.int .i64 (i : Int))) none none).run Tryd.prog wx = .ok (.string X) wx := fun wx => by rw [hX]; exact run_suf s i hi wx
  obtain ⟨p, hp⟩ : ∃ p, Lib.hasPrefix (s.data.toList.drop i) t.data.toList = p := ⟨_, rfl⟩
  have CP : Hid (∀ w, Calls Tryd.prog 92 #[.string X, .string t] w fun e w' => e = .returned (.bool p) ∧ w' = w) := fun w => by
    rw [← hp]
    have := prefix_any X t w
    rw [hX] at this ⊢
    exact this
  rw [hp]
  clear h hX hp hi
  go_enter Tryd.func75, Tryd.ntmps75
  go_wp2
  go_quiet (first | (go_at_call 92; exact Calls.quiet_of_same (CP.out _)))
  go_wp2
  go_ret
  exact ⟨rfl, _, rfl⟩

set_option maxHeartbeats 400000 in
theorem take_any (b : Nat) (s t : ByteArray) (i : Nat) (w : World) (hi : i ≤ s.size) (h : RS b s i w) (hs : s.size < 2 ^ 62) (ht : t.size < 2 ^ 62) :
    Calls Tryd.prog 63 #[.pointer (some ⟨b, 0, none⟩), .string t] w fun e w' => e = .returned (.bool (Lib.hasPrefix (s.data.toList.drop i) t.data.toList)) ∧ RS b s (if Lib.hasPrefix (s.data.toList.drop i) t.data.toList then i + t.size else i) w' ∧ w.grownBy w' (some b) := by
  obtain ⟨p, hp⟩ : ∃ p, Lib.hasPrefix (s.data.toList.drop i) t.data.toList = p := ⟨_, rfl⟩
  have CN : Hid (Calls Tryd.prog 75 #[.pointer (some ⟨b, 0, none⟩), .string t] w fun e w' => e = .returned (.bool p) ∧ ∃ n, w' = w.drewN n) := by
    show Calls _ _ _ _ _
    rw [← hp]; exact next_any b s t i w hi h
  rw [hp]
  have HR : Hid (RS b s i w) := h
  have hw : IntKind.i64.wrap ((i : Int) + (t.size : Int)) = ((i + t.size : Nat) : Int) := by rw [IntKind.wrap_i64]; omega
  clear hp h hs ht hi
  cases p with
  | true =>
    go_enter Tryd.func63, Tryd.ntmps63
    go_wp2_with (go_at_call 75; refine CN.out.mono ?_)
    rintro e w1 ⟨rfl, n, hn⟩
    have HR1 : Hid (RS b s i w1) := by show RS b s i w1; rw [hn]; exact HR.out.drew n
    have HG1 : Hid (w.grownBy w1 (some b)) := by show w.grownBy w1 (some b); rw [hn]; exact gb_drew (gb_refl w _) n
    have d1 := HR1.out.c1
    have df := HR1.out.f1
    clear hn
    go_wp2
    go_ret
    exact ⟨rfl, HR1.out.set (i + t.size), gb_set HG1.out _ _⟩
  | false =>
    go_enter Tryd.func63, Tryd.ntmps63
    go_wp2_with (go_at_call 75; refine CN.out.mono ?_)
    rintro e w1 ⟨rfl, n, hn⟩
    have HR1 : Hid (RS b s i w1) := by show RS b s i w1; rw [hn]; exact HR.out.drew n
    have HG1 : Hid (w.grownBy w1 (some b)) := by show w.grownBy w1 (some b); rw [hn]; exact gb_drew (gb_refl w _) n
    clear hn
    go_wp2
    go_ret
    exact ⟨rfl, HR1.out, HG1.out⟩

set_option maxHeartbeats 400000 in
theorem ended_any (b : Nat) (s : ByteArray) (i : Nat) (w : World) (h : RS b s i w) :
    Calls Tryd.prog 48 #[.pointer (some ⟨b, 0, none⟩)] w fun e w' => e = .returned (.bool (decide (i = s.size))) ∧ ∃ n, w' = w.drewN n := by
  have h0 := h.c0
  have h1 := h.c1
  clear h
  by_cases hc : i = s.size
  · have hd : ((i : Int) == (s.size : Int)) = true := by simp; omega
    have HD : Hid (decide (i = s.size) = true) := decide_eq_true hc
    rw [HD.out]
    clear hc
    go_enter Tryd.func48, Tryd.ntmps48
    go_wp2
    go_quiet (fail)
    go_wp2
    go_ret
    exact ⟨rfl, _, rfl⟩
  · have hd : ((i : Int) == (s.size : Int)) = false := by simp; omega
    have HD : Hid (decide (i = s.size) = false) := decide_eq_false hc
    rw [HD.out]
    clear hc
    go_enter Tryd.func48, Tryd.ntmps48
    go_wp2
    go_quiet (fail)
    go_wp2
    go_ret
    exact ⟨rfl, _, rfl⟩

theorem prefix_one (l : List UInt8) (i : Nat) (c : UInt8) : Lib.hasPrefix (l.drop i) [c] = decide (l[i]? = some c) := by
  have e : l[i]? = (l.drop i)[0]? := by rw [List.getElem?_drop]; rfl
  rw [e]
  cases l.drop i with
  | nil => rfl
  | cons x r =>
    show (c == x && true) = decide (some x = some c)
    rw [Bool.and_true]
    by_cases h : x = c
    · subst h; rw [decide_eq_true rfl]; exact beq_self_eq_true x
    · rw [decide_eq_false (fun e => h (Option.some.inj e))]
      exact beq_eq_false_iff_ne.2 (fun e => h e.symm)
theorem take_yes (b : Nat) (s : ByteArray) (i : Nat) (c : UInt8) (w : World) (hc : s.data.toList[i]? = some c) (h : RS b s i w) (hs : s.size < 2 ^ 62) :
    Calls Tryd.prog 63 #[.pointer (some ⟨b, 0, none⟩), .string ⟨#[c]⟩] w fun e w' => e = .returned (.bool true) ∧ RS b s (i + 1) w' ∧ w.grownBy w' (some b) := by
  have hlt : i < s.size := by have := (List.getElem?_eq_some_iff.1 hc).1; simpa using this
  have := take_any b s ⟨#[c]⟩ i w (Nat.le_of_lt hlt) h hs (by show 1 < _; decide)
  rw [show (ByteArray.mk #[c]).data.toList = [c] from rfl, prefix_one, decide_eq_true hc] at this
  exact this
theorem take_no (b : Nat) (s : ByteArray) (i : Nat) (c : UInt8) (w : World) (hi : i ≤ s.size) (hc : ¬ s.data.toList[i]? = some c) (h : RS b s i w) (hs : s.size < 2 ^ 62) :
    Calls Tryd.prog 63 #[.pointer (some ⟨b, 0, none⟩), .string ⟨#[c]⟩] w fun e w' => e = .returned (.bool false) ∧ RS b s i w' ∧ w.grownBy w' (some b) := by
  have := take_any b s ⟨#[c]⟩ i w hi h hs (by show 1 < _; decide)
  rw [show (ByteArray.mk #[c]).data.toList = [c] from rfl, prefix_one, decide_eq_false hc] at this
  exact this
end Go.Proofs.YtffogcjlpojpdaaDoor
