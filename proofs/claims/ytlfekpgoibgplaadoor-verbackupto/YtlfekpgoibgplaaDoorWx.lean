/-
  Parts read, walked.
-/
import Derived.Test.YtlfekpgoibgplaaDoorWw
import Derived.Test.YtlfekpgoibgplaaDoorShelf3
import Derived.Deep.RegionHeld3
namespace Go.Proofs.YtlfekpgoibgplaaDoor
open Go.RowKit Go.Shelf
set_option linter.unusedVariables false

theorem cloneL_any (s : ByteArray) (w : World) (hlim : s.size ≤ 281474976710656) :
    Calls Tryd.prog 86 #[.string s] w fun e w' => e = .returned (.string s) ∧ Below w.heap.size w w' := Any.stringslite_Clone Tryd.lays316 s w hlim
set_option maxHeartbeats 400000 in
theorem clone_any (s : ByteArray) (w : World) (hlim : s.size ≤ 281474976710656) :
    Calls Tryd.prog 72 #[.string s] w fun e w' => e = .returned (.string s) ∧ w.grownBy w' none := by
  have C : Hid (∀ w, Calls Tryd.prog 86 #[.string s] w fun e w' => e = .returned (.string s) ∧ Below w.heap.size w w') := fun w => cloneL_any s w hlim
  clear hlim
  go_enter Tryd.func72, Tryd.ntmps72
  go_wp2_with (first | (go_at_call 86; refine (C.out _).mono ?_; rintro e w1 ⟨rfl, hb⟩))
  go_ret
  exact ⟨rfl, ⟨hb.os, hb.tape, hb.output, hb.size, fun k hk _ => hb.block k hk⟩⟩

/-- what parts answers -/
def partsR (st : Bool) (l : List UInt8) (i : Nat) : List UInt8 := if (rdParts st l i).1 = 0 then subT l i ((rdParts st l i).2 - i) else []

set_option maxHeartbeats 1600000 in
theorem partsP (b : Nat) (s : ByteArray) (i : Nat) (w : World) (hi : i ≤ s.size) (h : RS b s i w) (hs : s.size ≤ 281474976710656) :
    Calls Tryd.prog 60 #[.pointer (some ⟨b, 0, none⟩), .int .i64 0] w fun e w' => e = .returned (.tuple #[.string ⟨(partsR true s.data.toList i).toArray⟩, .int .i64 (rdParts true s.data.toList i).1]) ∧ RS b s (rdParts true s.data.toList i).2 w' ∧ w.grownBy w' (some b) := by
  have hsl : s.data.toList.length = s.size := by simp
  have CS : Hid (Calls Tryd.prog 36 #[.pointer (some ⟨b, 0, none⟩), .int .i64 0] w fun e w' => e = .returned (.int .i64 (rdParts true s.data.toList i).1) ∧ RS b s (rdParts true s.data.toList i).2 w' ∧ w.grownBy w' (some b)) := skipP b s i w hi h (by omega)
  have d1 := h.c1
  have hpt := parts_take true s.data.toList _ i rfl (by rw [hsl]; exact hi)
  obtain ⟨P, hP⟩ : ∃ P, P = partsR true s.data.toList i := ⟨_, rfl⟩
  unfold partsR at hP
  have hP0 : partsR true s.data.toList i = P := hP.symm
  rw [hP0]
  obtain ⟨E, Q, hEQ⟩ : ∃ E Q, rdParts true s.data.toList i = (E, Q) := ⟨_, _, rfl⟩
  rw [hEQ] at CS hpt hP
  rw [hEQ]
  simp only at hpt hP
  have HP : Hid (P = if E = 0 then subT s.data.toList i (Q - i) else []) := hP
  have HPT : Hid (E = 0 → i < Q ∧ Q ≤ s.size) := fun h => by have := hpt h; rw [hsl] at this; exact ⟨this.1, this.2.1⟩
  have HS : Hid (s.size ≤ 281474976710656 ∧ s.data.toList.length = s.size) := ⟨hs, hsl⟩
  clear hP0 hEQ hpt hP hi h hs hsl
  cases hz : (E == 0) with
  | false =>
    have HZ : Hid (P = []) := by show P = []; rw [HP.out, if_neg (by simpa using hz)]
    go_enter Tryd.func60, Tryd.ntmps60
    go_wp2_with (go_at_call 36; refine CS.out.mono ?_)
    rintro e w1 rfl hr1 hg1
    have HF : Hid (RS b s Q w1 ∧ w.grownBy w1 (some b)) := ⟨hr1, hg1⟩
    clear hr1 hg1
    go_wp2
    refine bodyPost_ret (results_tmp2 rfl _ _ _) rfl ⟨?_, HF.out.1, HF.out.2⟩
    rw [HZ.out]; rfl
  | true =>
    have hE : E = 0 := by simpa using hz
    have hq := HPT.out hE
    obtain ⟨X, hX⟩ : ∃ X : ByteArray, X = ⟨P.toArray⟩ := ⟨_, rfl⟩
    have hPe : P = subT s.data.toList i (Q - i) := by rw [HP.out, if_pos hE]
    have sl : ∀ wx, (Instr.slice 9 (.string s) (some (.int .i64 (i : Int))) (some (.int .i64 (Q : Int))) none).run Tryd.prog wx = .ok (.string X) wx := fun wx => by rw [hX, hPe]; exact run_sub s i Q (by omega) hq.2 wx
    have CC : Hid (∀ w, Calls Tryd.prog 72 #[.string X] w fun e w' => e = .returned (.string X) ∧ w.grownBy w' none) := fun w => clone_any X w (by
      rw [hX]; show P.toArray.size ≤ _
      have := sub_len s.data.toList i (Q - i) (by have := HS.out.2; omega)
      rw [← hPe] at this
      have h2 := HS.out.1
      simp; omega)
    have HX : Hid (X = ⟨P.toArray⟩) := hX
    subst hE
    clear hX hPe hq hz HPT
    go_enter Tryd.func60, Tryd.ntmps60
    go_wp2_with (go_at_call 36; refine CS.out.mono ?_)
    rintro e w1 rfl hr1 hg1
    have HR1 : Hid (RS b s Q w1) := hr1
    have HG1 : Hid (w.grownBy w1 (some b)) := hg1
    have f0 := hr1.c0
    have f1 := hr1.c1
    clear hr1 hg1
    go_wp2
    go_region_held3 (fun w' => w'.cell? ⟨b, 0, none⟩ = some (.string s) ∧ w'.cell? ⟨b, 1, none⟩ = some (.int .i64 (Q : Int))) ((first | go_keep | (refine ⟨?_, ?_⟩ <;> (refine World.grownBy.cell (by assumption) ?_ (by simp); assumption)))) (first | (go_at_call 72; refine (CC.out _).mono ?_; rintro e w2 ⟨rfl, hg2⟩))
    have HF : Hid (RS b s Q w2 ∧ w.grownBy w2 (some b)) := ⟨HR1.out.grow (gb_undrew hg2), gb_trans HG1.out (gb_weak (gb_undrew hg2) _)⟩
    clear hg2
    go_wp2
    refine bodyPost_ret (results_tmp2 rfl _ _ _) rfl ⟨?_, HF.out.1, HF.out.2⟩
    rw [← HX.out]; rfl

set_option maxHeartbeats 1600000 in
theorem partsB (b : Nat) (s : ByteArray) (i : Nat) (w : World) (hi : i ≤ s.size) (h : RS b s i w) (hs : s.size ≤ 281474976710656) :
    Calls Tryd.prog 60 #[.pointer (some ⟨b, 0, none⟩), .int .i64 1] w fun e w' => e = .returned (.tuple #[.string ⟨(partsR false s.data.toList i).toArray⟩, .int .i64 (rdParts false s.data.toList i).1]) ∧ RS b s (rdParts false s.data.toList i).2 w' ∧ w.grownBy w' (some b) := by
  have hsl : s.data.toList.length = s.size := by simp
  have CS : Hid (Calls Tryd.prog 36 #[.pointer (some ⟨b, 0, none⟩), .int .i64 1] w fun e w' => e = .returned (.int .i64 (rdParts false s.data.toList i).1) ∧ RS b s (rdParts false s.data.toList i).2 w' ∧ w.grownBy w' (some b)) := skipB b s i w hi h (by omega)
  have d1 := h.c1
  have hpt := parts_take false s.data.toList _ i rfl (by rw [hsl]; exact hi)
  obtain ⟨P, hP⟩ : ∃ P, P = partsR false s.data.toList i := ⟨_, rfl⟩
  unfold partsR at hP
  have hP0 : partsR false s.data.toList i = P := hP.symm
  rw [hP0]
  obtain ⟨E, Q, hEQ⟩ : ∃ E Q, rdParts false s.data.toList i = (E, Q) := ⟨_, _, rfl⟩
  rw [hEQ] at CS hpt hP
  rw [hEQ]
  simp only at hpt hP
  have HP : Hid (P = if E = 0 then subT s.data.toList i (Q - i) else []) := hP
  have HPT : Hid (E = 0 → i < Q ∧ Q ≤ s.size) := fun h => by have := hpt h; rw [hsl] at this; exact ⟨this.1, this.2.1⟩
  have HS : Hid (s.size ≤ 281474976710656 ∧ s.data.toList.length = s.size) := ⟨hs, hsl⟩
  clear hP0 hEQ hpt hP hi h hs hsl
  cases hz : (E == 0) with
  | false =>
    have HZ : Hid (P = []) := by show P = []; rw [HP.out, if_neg (by simpa using hz)]
    go_enter Tryd.func60, Tryd.ntmps60
    go_wp2_with (go_at_call 36; refine CS.out.mono ?_)
    rintro e w1 rfl hr1 hg1
    have HF : Hid (RS b s Q w1 ∧ w.grownBy w1 (some b)) := ⟨hr1, hg1⟩
    clear hr1 hg1
    go_wp2
    refine bodyPost_ret (results_tmp2 rfl _ _ _) rfl ⟨?_, HF.out.1, HF.out.2⟩
    rw [HZ.out]; rfl
  | true =>
    have hE : E = 0 := by simpa using hz
    have hq := HPT.out hE
    obtain ⟨X, hX⟩ : ∃ X : ByteArray, X = ⟨P.toArray⟩ := ⟨_, rfl⟩
    have hPe : P = subT s.data.toList i (Q - i) := by rw [HP.out, if_pos hE]
    have sl : ∀ wx, (Instr.slice 9 (.string s) (some (.int .i64 (i : Int))) (some (.int .i64 (Q : Int))) none).run Tryd.prog wx = .ok (.string X) wx := fun wx => by rw [hX, hPe]; exact run_sub s i Q (by omega) hq.2 wx
    have CC : Hid (∀ w, Calls Tryd.prog 72 #[.string X] w fun e w' => e = .returned (.string X) ∧ w.grownBy w' none) := fun w => clone_any X w (by
      rw [hX]; show P.toArray.size ≤ _
      have := sub_len s.data.toList i (Q - i) (by have := HS.out.2; omega)
      rw [← hPe] at this
      have h2 := HS.out.1
      simp; omega)
    have HX : Hid (X = ⟨P.toArray⟩) := hX
    subst hE
    clear hX hPe hq hz HPT
    go_enter Tryd.func60, Tryd.ntmps60
    go_wp2_with (go_at_call 36; refine CS.out.mono ?_)
    rintro e w1 rfl hr1 hg1
    have HR1 : Hid (RS b s Q w1) := hr1
    have HG1 : Hid (w.grownBy w1 (some b)) := hg1
    have f0 := hr1.c0
    have f1 := hr1.c1
    clear hr1 hg1
    go_wp2
    go_region_held3 (fun w' => w'.cell? ⟨b, 0, none⟩ = some (.string s) ∧ w'.cell? ⟨b, 1, none⟩ = some (.int .i64 (Q : Int))) ((first | go_keep | (refine ⟨?_, ?_⟩ <;> (refine World.grownBy.cell (by assumption) ?_ (by simp); assumption)))) (first | (go_at_call 72; refine (CC.out _).mono ?_; rintro e w2 ⟨rfl, hg2⟩))
    have HF : Hid (RS b s Q w2 ∧ w.grownBy w2 (some b)) := ⟨HR1.out.grow (gb_undrew hg2), gb_trans HG1.out (gb_weak (gb_undrew hg2) _)⟩
    clear hg2
    go_wp2
    refine bodyPost_ret (results_tmp2 rfl _ _ _) rfl ⟨?_, HF.out.1, HF.out.2⟩
    rw [← HX.out]; rfl
end Go.Proofs.YtlfekpgoibgplaaDoor
