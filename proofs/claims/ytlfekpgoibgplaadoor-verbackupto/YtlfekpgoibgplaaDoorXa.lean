/-
  The document's reader: fail and must, walked.
-/
import Derived.Test.YtlfekpgoibgplaaDoorWz
namespace Go.Proofs.YtlfekpgoibgplaaDoor
open Go.RowKit
set_option linter.unusedVariables false

/-- the document's reader at block b: its text, its place, its error and the error's place -/
def VS (b : Nat) (s : ByteArray) (i : Nat) (E : Int) (a : Nat) (w : World) : Prop := w.heap[b]? = some (.cells #[.string s, .int .i64 (i : Int), .int .i64 E, .int .i64 (a : Int)] 59 (0, 0))
theorem VS.c0 {b : Nat} {s : ByteArray} {i : Nat} {E : Int} {a : Nat} {w : World} (h : VS b s i E a w) : w.cell? ⟨b, 0, none⟩ = some (.string s) := by rw [Lib.cell_of_heap h]; rfl
theorem VS.c1 {b : Nat} {s : ByteArray} {i : Nat} {E : Int} {a : Nat} {w : World} (h : VS b s i E a w) : w.cell? ⟨b, 1, none⟩ = some (.int .i64 (i : Int)) := by rw [Lib.cell_of_heap h]; rfl
theorem VS.c2 {b : Nat} {s : ByteArray} {i : Nat} {E : Int} {a : Nat} {w : World} (h : VS b s i E a w) : w.cell? ⟨b, 2, none⟩ = some (.int .i64 E) := by rw [Lib.cell_of_heap h]; rfl
theorem VS.c3 {b : Nat} {s : ByteArray} {i : Nat} {E : Int} {a : Nat} {w : World} (h : VS b s i E a w) : w.cell? ⟨b, 3, none⟩ = some (.int .i64 (a : Int)) := by rw [Lib.cell_of_heap h]; rfl
theorem VS.f1 {b : Nat} {s : ByteArray} {i : Nat} {E : Int} {a : Nat} {w : World} (h : VS b s i E a w) : w.frozen? ⟨b, 1, none⟩ = false := Lib.frozen_of_heap h 1
theorem VS.f2 {b : Nat} {s : ByteArray} {i : Nat} {E : Int} {a : Nat} {w : World} (h : VS b s i E a w) : w.frozen? ⟨b, 2, none⟩ = false := Lib.frozen_of_heap h 2
theorem VS.f3 {b : Nat} {s : ByteArray} {i : Nat} {E : Int} {a : Nat} {w : World} (h : VS b s i E a w) : w.frozen? ⟨b, 3, none⟩ = false := Lib.frozen_of_heap h 3
theorem VS.drew {b : Nat} {s : ByteArray} {i : Nat} {E : Int} {a : Nat} {w : World} (h : VS b s i E a w) (n : Nat) : VS b s i E a (w.drewN n) := h
theorem VS.set1 {b : Nat} {s : ByteArray} {i : Nat} {E : Int} {a : Nat} {w : World} (h : VS b s i E a w) (j : Nat) : VS b s j E a (w.setCell ⟨b, 1, none⟩ (.int .i64 (j : Int))) := by
  unfold VS at h ⊢
  simp [World.setCell, Array.getElem?_modify, h]
theorem VS.set2 {b : Nat} {s : ByteArray} {i : Nat} {E : Int} {a : Nat} {w : World} (h : VS b s i E a w) (F : Int) : VS b s i F a (w.setCell ⟨b, 2, none⟩ (.int .i64 F)) := by
  unfold VS at h ⊢
  simp [World.setCell, Array.getElem?_modify, h]
theorem VS.set3 {b : Nat} {s : ByteArray} {i : Nat} {E : Int} {a : Nat} {w : World} (h : VS b s i E a w) (c : Nat) : VS b s i E c (w.setCell ⟨b, 3, none⟩ (.int .i64 (c : Int))) := by
  unfold VS at h ⊢
  simp [World.setCell, Array.getElem?_modify, h]

set_option maxHeartbeats 400000 in
theorem fail_first (b : Nat) (s : ByteArray) (i : Nat) (a : Nat) (F : Int) (c : Nat) (w : World) (h : VS b s i 0 a w) :
    Calls Tryd.prog 34 #[.pointer (some ⟨b, 0, none⟩), .int .i64 F, .int .i64 (c : Int)] w fun e w' => e = .returned (.tuple #[]) ∧ VS b s i F c w' ∧ w.grownBy w' (some b) := by
  have h2 := h.c2
  have h3 := h.c3
  have f2 := h.f2
  have f3 := h.f3
  have HR : Hid (VS b s i 0 a w) := h
  clear h
  go_enter Tryd.func34, Tryd.ntmps34
  go_wp2
  go_end0
  exact ⟨rfl, (HR.out.set2 F).set3 c, gb_set (gb_set (gb_refl w _) _ _) _ _⟩

set_option maxHeartbeats 400000 in
theorem fail_later (b : Nat) (s : ByteArray) (i : Nat) (E : Int) (hE : E ≠ 0) (a : Nat) (F : Int) (c : Nat) (w : World) (h : VS b s i E a w) :
    Calls Tryd.prog 34 #[.pointer (some ⟨b, 0, none⟩), .int .i64 F, .int .i64 (c : Int)] w fun e w' => e = .returned (.tuple #[]) ∧ VS b s i E a w' ∧ w.grownBy w' (some b) := by
  have h2 := h.c2
  have HR : Hid (VS b s i E a w) := h
  have hn : (E == 0) = false := by simpa using hE
  clear h hE
  go_enter Tryd.func34, Tryd.ntmps34
  go_wp2
  go_end0
  exact ⟨rfl, HR.out, gb_refl w _⟩

set_option maxHeartbeats 400000 in
theorem must_yes (b : Nat) (s : ByteArray) (i : Nat) (E : Int) (a : Nat) (c : UInt8) (w : World) (hc : s.data.toList[i]? = some c) (h : VS b s i E a w) (hs : s.size < 2 ^ 62) :
    Calls Tryd.prog 32 #[.pointer (some ⟨b, 0, none⟩), .int .u8 (c.toNat : Int)] w fun e w' => e = .returned (.tuple #[]) ∧ VS b s (i + 1) E a w' ∧ w.grownBy w' (some b) := by
  have h0 := h.c0
  have h1 := h.c1
  have f1 := h.f1
  have HR : Hid (VS b s i E a w) := h
  clear h
  have hlt : i < s.size := by have := (List.getElem?_eq_some_iff.1 hc).1; simpa using this
  rw [get_data s i hlt] at hc
  have hc' : s[i] = c := Option.some.inj hc
  clear hc
  subst hc'
  have hd : decide ((s.size : Int) ≤ (i : Int)) = false := by simp; omega
  have hw : IntKind.i64.wrap ((i : Int) + 1) = ((i + 1 : Nat) : Int) := by rw [IntKind.wrap_i64]; omega
  go_enter Tryd.func32, Tryd.ntmps32
  go_wp2
  go_quiet (fail)
  go_wp2
  go_end0
  exact ⟨rfl, (HR.out.drew nq).set1 (i + 1), gb_set (gb_drew (gb_refl w _) _) _ _⟩

set_option maxHeartbeats 400000 in
theorem must_no (b : Nat) (s : ByteArray) (i : Nat) (a : Nat) (c : UInt8) (w : World) (hi : i ≤ s.size) (hc : ¬ s.data.toList[i]? = some c) (h : VS b s i 0 a w) (hs : s.size < 2 ^ 62) :
    Calls Tryd.prog 32 #[.pointer (some ⟨b, 0, none⟩), .int .u8 (c.toNat : Int)] w fun e w' => e = .returned (.tuple #[]) ∧ VS b s i 2 i w' ∧ w.grownBy w' (some b) := by
  have h0 := h.c0
  have h1 := h.c1
  have HR : Hid (VS b s i 0 a w) := h
  clear h
  by_cases hlt : i < s.size
  · rw [get_data s i hlt] at hc
    have hne : s[i] ≠ c := fun e => hc (by rw [e])
    have hn : ((s[i].toNat : Int) == (c.toNat : Int)) = false := by
      simp only [beq_eq_false_iff_ne, ne_eq]
      intro e
      exact hne (UInt8.toNat_inj.1 (by omega))
    have hd : decide ((s.size : Int) ≤ (i : Int)) = false := by simp; omega
    have hm : ((s[i].toNat : Int) != (c.toNat : Int)) = true := by rw [bne, hn]; rfl
    clear hc hne
    go_enter Tryd.func32, Tryd.ntmps32
    go_wp2
    go_quiet (fail)
    have e1 : (w.drewN nq).cell? ⟨b, 1, none⟩ = some (.int .i64 (i : Int)) := h1
    go_wp2_with (go_at_call 34; refine (fail_first b s i a 2 i _ (HR.out.drew _)).mono ?_)
    rintro e w1 ⟨rfl, hr, hg⟩
    go_wp2
    (try simp only [Exit.inBlock, Exit.then])
    refine bodyPost_ret (results_none rfl _ _ _) rfl ?_
    exact ⟨rfl, hr, gb_trans (gb_drew (gb_refl w _) _) hg⟩
  · have hd : decide ((s.size : Int) ≤ (i : Int)) = true := by simp; omega
    clear hc
    go_enter Tryd.func32, Tryd.ntmps32
    go_wp2
    go_quiet (fail)
    have e1 : (w.drewN nq).cell? ⟨b, 1, none⟩ = some (.int .i64 (i : Int)) := h1
    go_wp2_with (go_at_call 34; refine (fail_first b s i a 2 i _ (HR.out.drew _)).mono ?_)
    rintro e w1 ⟨rfl, hr, hg⟩
    go_wp2
    (try simp only [Exit.inBlock, Exit.then])
    refine bodyPost_ret (results_none rfl _ _ _) rfl ?_
    exact ⟨rfl, hr, gb_trans (gb_drew (gb_refl w _) _) hg⟩
end Go.Proofs.YtlfekpgoibgplaaDoor
