import Derived.Test.YtegapdmbpkfpmaaGreatDoorM05
import Derived.Test.YtegapdmbpkfpmaaGreatDoorM07
/-
  What is sound, told by the document; walked.
-/
namespace Go.Proofs.YtegapdmbpkfpmaaGreatDoor
open Go.RowKit
set_option linter.unusedVariables false

set_option maxHeartbeats 400000 in
theorem inBound_any (n : Int) (w : World) : Calls Tryz.prog 41 #[.int .i64 n] w fun e w' => e = .returned (.bool (bound n)) ∧ w' = w := by
  go_enter Tryz.func41, Tryz.ntmps41
  go_wp2
  all_goals go_ret
  all_goals (refine ⟨ret_bool ?_, rfl⟩; rw [Bool.eq_iff_iff]; unfold bound; simp; try omega)

theorem gp_empty (b : Bool) (s : ByteArray) (h : s.size = 0) : okParts b s.data.toList = true := by
  have : s.data.toList = [] := List.length_eq_zero_iff.1 (by simpa using h)
  rw [this]; rfl
theorem gp_full (b : Bool) (s : ByteArray) (h : s.size ≠ 0) : okParts b s.data.toList = (splitD s.data.toList).all (okPart b) := by
  have : s.data.toList.isEmpty = false := by have := emp_f h; rw [Lib.toList_data] at this; exact this
  unfold okParts; rw [this, Bool.false_or]

set_option maxHeartbeats 1600000 in
theorem goodParts_any (s : ByteArray) (b : Bool) (w : World) (hs : s.size ≤ 1048576) :
    Calls Tryz.prog 42 #[.string s, .bool b] w fun e w' => e = .returned (.bool (okParts b s.data.toList)) ∧ Below w.heap.size w w' := by
  by_cases h0 : s.size = 0
  · have c1 := emp_t h0
    rw [gp_empty b s h0]
    clear h0
    go_enter Tryz.func42, Tryz.ntmps42
    go_wp2
    go_ret
    exact ⟨rfl, Below.refl _ _⟩
  · have c1 := emp_f h0
    rw [gp_full b s h0]
    clear h0
    have SA := fun w => split_slice s w hs
    have PA : ∀ p ∈ splitD s.data.toList, p.length < 2 ^ 62 := fun p hp => by have := part_len _ p hp; simp at this; omega
    have LA : (splitD s.data.toList).length < 2 ^ 62 := by have := split_len s.data.toList; simp at this; omega
    generalize splitD s.data.toList = L at SA PA LA ⊢
    obtain ⟨R, hR⟩ : ∃ R, R = L.all (okPart b) := ⟨_, rfl⟩
    rw [← hR]
    have HR : Hid (R = L.all (okPart b)) := hR
    have HPA : Hid (∀ p ∈ L, p.length < 2 ^ 62) := PA
    clear hR hs PA
    go_enter Tryz.func42, Tryz.ntmps42
    go_wp2_with (go_at_call 68; refine (SA _).mono ?_)
    rintro e w1 ⟨g, cap, rfl, hg1, hg2, hc, hb1⟩
    have HC : Hid (∀ j, (hj : j < L.length) → w1.cell? ⟨g, j, none⟩ = some (.string ⟨L[j].toArray⟩)) := hc
    have HB : Hid (Below w.heap.size w w1) := hb1
    clear hc SA hb1 hg1 hg2
    go_wp2
    go_loop [6] (fun vi => ∃ k : Nat, k ≤ L.length ∧ vi = .int .i64 k ∧ (∀ j, (hj : j < L.length) → j < k → okPart b L[j] = true)) (fun vi => L.length - (intOf vi).toNat)
    case atStart => exact ⟨0, Nat.zero_le _, rfl, fun j hj h => absurd h (by omega)⟩
    case round =>
      obtain ⟨k, hk, rfl, hp⟩ := hrel
      have HK : Hid (∀ j, (hj : j < L.length) → j < k → okPart b L[j] = true) := hp
      clear hp
      by_cases h1 : k < L.length
      · obtain ⟨P, hP⟩ : ∃ P : ByteArray, P = ⟨L[k].toArray⟩ := ⟨_, rfl⟩
        have HPd : Hid (P.data.toList = L[k]) := by show P.data.toList = L[k]; rw [hP]
        have hc1 : w1.cell? ⟨g, k, none⟩ = some (.string P) := by rw [hP]; exact HC.out k h1
        have hPs : P.size < 2 ^ 62 := by
          have h := HPA.out L[k] (List.getElem_mem h1)
          rw [hP]; show L[k].toArray.size < _; simpa using h
        have i1 : (k : Int) < (L.length : Int) := by omega
        clear hP
        by_cases hz : P.size = 0
        · have e1 := emp_t hz
          have HZ : Hid (R = false) := by
            show R = false
            rw [HR.out, List.all_eq_false]
            refine ⟨L[k], List.getElem_mem h1, ?_⟩
            rw [← HPd.out, List.length_eq_zero_iff.1 (show P.data.toList.length = 0 by simpa using hz)]
            simp [okPart]
          clear hz
          go_wp2
          go_ret
          exact ⟨ret_bool HZ.out.symm, HB.out⟩
        · have e1 := emp_f hz
          have HE : Hid (P.data.toList.isEmpty = false) := by show P.data.toList.isEmpty = false; rw [← Lib.toList_data]; exact e1
          have hpos : 0 < P.size := by omega
          clear hz
          go_wp2
          go_loop [8] (fun vk => ∃ m : Nat, m ≤ P.size ∧ vk = .int .i64 m ∧ (∀ j, (hj : j < P.size) → j < m → isP P[j] = true)) (fun vk => P.size - (intOf vk).toNat)
          case atStart => exact ⟨0, Nat.zero_le _, rfl, fun j hj h => absurd h (by omega)⟩
          case round =>
            obtain ⟨m, hm, rfl, hp⟩ := hrel
            have HM : Hid (∀ j, (hj : j < P.size) → j < m → isP P[j] = true) := hp
            clear hp
            by_cases hlt : m < P.size
            · cases hd : isP P[m] with
              | true =>
                go_wp2_with (go_at_call 69; refine (rpartByte_any _ _).mono ?_; rintro e w' ⟨rfl, rfl⟩)
                go_round
                case rel =>
                  refine ⟨m + 1, by omega, by go_num, fun j hj hjk => ?_⟩
                  by_cases hjk' : j < m
                  · exact HM.out j hj hjk'
                  · have e : j = m := by omega
                    subst e
                    exact hd
                case measure => simp [intOf]; omega
              | false =>
                have HZ : Hid (R = false) := by
                  show R = false
                  rw [HR.out, List.all_eq_false]
                  refine ⟨L[k], List.getElem_mem h1, ?_⟩
                  have ha : P.data.toList.all isP = false := by
                    rw [List.all_eq_false]
                    exact ⟨P[m], List.mem_of_getElem? (get_data P m hlt), by simp [hd]⟩
                  rw [← HPd.out]; unfold okPart; rw [ha]; simp
                go_wp2_with (go_at_call 69; refine (rpartByte_any _ _).mono ?_; rintro e w' ⟨rfl, rfl⟩)
                go_ret
                exact ⟨ret_bool HZ.out.symm, HB.out⟩
            · have HA : Hid (P.data.toList.all isP = true) := by
                show P.data.toList.all isP = true
                rw [List.all_eq_true]
                intro c hc
                obtain ⟨j, hj, rfl⟩ := List.getElem_of_mem hc
                exact HM.out j (by simpa using hj) (by simp at hj; have : P.size = P.data.size := rfl; omega)
              have HV : Hid (okPart b L[k] = !badZ b P.data.toList) := by
                show okPart b L[k] = _
                rw [← HPd.out]; unfold okPart; rw [HE.out, HA.out]; rfl
              have HPl : Hid (P.data.toList.length = P.size) := by show P.data.toList.length = P.size; simp
              have HG0 : Hid (P.data.toList[0]? = some P[0]) := get_data P 0 hpos
              obtain ⟨dP, hdP⟩ : ∃ d, P.data.toList.all isD = d := ⟨_, rfl⟩
              have HDP : Hid (P.data.toList.all isD = dP) := hdP
              have DP : Hid (∀ w, Calls Tryz.prog 70 #[.string P] w fun e w' => e = .returned (.bool dP) ∧ w' = w) := fun w => by rw [← hdP]; exact rdigits_any P w hPs
              clear hm hdP
              have FIN : Hid (∀ z : Bool, badZ b P.data.toList = z → (z = true → R = false) ∧ (z = false → okPart b L[k] = true)) := by
                intro z hz
                refine ⟨fun h => ?_, fun h => ?_⟩
                · rw [HR.out, List.all_eq_false]
                  refine ⟨L[k], List.getElem_mem h1, ?_⟩
                  rw [HV.out, hz, h]; simp
                · rw [HV.out, hz, h]; rfl
              cases b with
              | false =>
                have HOK : Hid (okPart false L[k] = true) := (FIN.out false rfl).2 rfl
                go_wp2
                go_round
                case rel =>
                  refine ⟨k + 1, by omega, by go_num, fun j hj hjk => ?_⟩
                  by_cases hjk' : j < k
                  · exact HK.out j hj hjk'
                  · have e : j = k := by omega
                    subst e
                    exact HOK.out
                case measure => simp [intOf]; omega
              | true =>
                cases dP with
                | false =>
                  have HOK : Hid (okPart true L[k] = true) := (FIN.out false (by unfold badZ; rw [HDP.out]; rfl)).2 rfl
                  go_wp2_with (first | (go_at_call 70; refine (DP.out _).mono ?_; rintro e w' ⟨rfl, rfl⟩))
                  go_round
                  case rel =>
                    refine ⟨k + 1, by omega, by go_num, fun j hj hjk => ?_⟩
                    by_cases hjk' : j < k
                    · exact HK.out j hj hjk'
                    · have e : j = k := by omega
                      subst e
                      exact HOK.out
                  case measure => simp [intOf]; omega
                | true =>
                  by_cases hl1 : 1 < P.size
                  · cases hz : ((P[0].toNat : Int) == 48) with
                    | true =>
                      have hc : P[0] = 48 := UInt8.toNat_inj.1 (by have := eq_of_beq hz; have e48 : (48 : UInt8).toNat = 48 := rfl; omega)
                      have HZ : Hid (R = false) := (FIN.out true (by unfold badZ; rw [HDP.out, HPl.out, HG0.out, hc, decide_eq_true hl1]; rfl)).1 rfl
                      clear hc
                      go_wp2_with (first | (go_at_call 70; refine (DP.out _).mono ?_; rintro e w' ⟨rfl, rfl⟩))
                      go_ret
                      exact ⟨ret_bool HZ.out.symm, HB.out⟩
                    | false =>
                      have hc : ¬ (some P[0] = some (48 : UInt8)) := by
                        intro e
                        rw [Option.some.inj e] at hz
                        exact absurd hz (by decide)
                      have HOK : Hid (okPart true L[k] = true) := (FIN.out false (by unfold badZ; rw [HG0.out, decide_eq_false hc]; simp)).2 rfl
                      clear hc
                      go_wp2_with (first | (go_at_call 70; refine (DP.out _).mono ?_; rintro e w' ⟨rfl, rfl⟩))
                      go_round
                      case rel =>
                        refine ⟨k + 1, by omega, by go_num, fun j hj hjk => ?_⟩
                        by_cases hjk' : j < k
                        · exact HK.out j hj hjk'
                        · have e : j = k := by omega
                          subst e
                          exact HOK.out
                      case measure => simp [intOf]; omega
                  · have HOK : Hid (okPart true L[k] = true) := (FIN.out false (by unfold badZ; rw [HPl.out, decide_eq_false hl1]; simp)).2 rfl
                    go_wp2_with (first | (go_at_call 70; refine (DP.out _).mono ?_; rintro e w' ⟨rfl, rfl⟩))
                    go_round
                    case rel =>
                      refine ⟨k + 1, by omega, by go_num, fun j hj hjk => ?_⟩
                      by_cases hjk' : j < k
                      · exact HK.out j hj hjk'
                      · have e : j = k := by omega
                        subst e
                        exact HOK.out
                    case measure => simp [intOf]; omega
      · have HZ : Hid (R = true) := by
          show R = true
          rw [HR.out, List.all_eq_true]
          intro c hc
          obtain ⟨j, hj, rfl⟩ := List.getElem_of_mem hc
          exact HK.out j hj (by omega)
        clear hk
        go_wp2
        go_ret
        exact ⟨ret_bool HZ.out.symm, HB.out⟩
end Go.Proofs.YtegapdmbpkfpmaaGreatDoor

/-
  Sound versions and the next one, walked.
-/
namespace Go.Proofs.YtegapdmbpkfpmaaGreatDoor
open Go.RowKit
set_option linter.unusedVariables false

theorem below_gb' {w w' : World} (h : Below w.heap.size w w') : w.grownBy w' none := ⟨h.os, h.tape, h.output, h.size, fun k hk _ => h.block k hk⟩

set_option maxHeartbeats 1600000 in
theorem sound_any (a1 a2 a3 : Int) (a4 a5 : ByteArray) (w : World) (h4 : a4.size ≤ 1048576) (h5 : a5.size ≤ 1048576) :
    Calls Tryz.prog 19 #[.agg #[.int .i64 a1, .int .i64 a2, .int .i64 a3, .string a4, .string a5]] w fun e w' => e = .returned (.bool (soundV ⟨a1, a2, a3, a4.data.toList, a5.data.toList⟩)) ∧ w.grownBy w' none := by
  obtain ⟨R, hR⟩ : ∃ R, R = soundV ⟨a1, a2, a3, a4.data.toList, a5.data.toList⟩ := ⟨_, rfl⟩
  obtain ⟨x1, hx1⟩ : ∃ x, x = bound a1 := ⟨_, rfl⟩
  obtain ⟨x2, hx2⟩ : ∃ x, x = bound a2 := ⟨_, rfl⟩
  obtain ⟨x3, hx3⟩ : ∃ x, x = bound a3 := ⟨_, rfl⟩
  obtain ⟨x4, hx4⟩ : ∃ x, x = okParts true a4.data.toList := ⟨_, rfl⟩
  obtain ⟨x5, hx5⟩ : ∃ x, x = okParts false a5.data.toList := ⟨_, rfl⟩
  have HR : Hid (R = (x1 && (x2 && (x3 && (x4 && x5))))) := by show R = _; rw [hR, hx1, hx2, hx3, hx4, hx5]; rfl
  have C1 : Hid (∀ w, Calls Tryz.prog 41 #[.int .i64 a1] w fun e w' => e = .returned (.bool x1) ∧ w' = w) := fun w => by rw [hx1]; exact inBound_any a1 w
  have C2 : Hid (∀ w, Calls Tryz.prog 41 #[.int .i64 a2] w fun e w' => e = .returned (.bool x2) ∧ w' = w) := fun w => by rw [hx2]; exact inBound_any a2 w
  have C3 : Hid (∀ w, Calls Tryz.prog 41 #[.int .i64 a3] w fun e w' => e = .returned (.bool x3) ∧ w' = w) := fun w => by rw [hx3]; exact inBound_any a3 w
  have C4 : Hid (∀ w, Calls Tryz.prog 42 #[.string a4, .bool true] w fun e w' => e = .returned (.bool x4) ∧ Below w.heap.size w w') := fun w => by rw [hx4]; exact goodParts_any a4 true w h4
  have C5 : Hid (∀ w, Calls Tryz.prog 42 #[.string a5, .bool false] w fun e w' => e = .returned (.bool x5) ∧ Below w.heap.size w w') := fun w => by rw [hx5]; exact goodParts_any a5 false w h5
  have GA : Hid (∀ o, w.grownBy (w.alloc o) none) := fun o => gb_alloc (gb_refl w none) o
  rw [← hR]
  clear hR hx1 hx2 hx3 hx4 hx5 h4 h5
  cases x1 with
  | false =>
    have HZ : Hid (R = false) := by show R = false; rw [HR.out]; rfl
    go_enter Tryz.func19, Tryz.ntmps19
    go_wp2_with (first | (go_at_call_of 41 a1; refine (C1.out _).mono ?_; rintro e w' ⟨rfl, rfl⟩) | (go_at_call_of 41 a2; refine (C2.out _).mono ?_; rintro e w' ⟨rfl, rfl⟩) | (go_at_call_of 41 a3; refine (C3.out _).mono ?_; rintro e w' ⟨rfl, rfl⟩))
    go_ret
    exact ⟨ret_bool HZ.out.symm, GA.out _⟩
  | true =>
    cases x2 with
    | false =>
      have HZ : Hid (R = false) := by show R = false; rw [HR.out]; rfl
      go_enter Tryz.func19, Tryz.ntmps19
      go_wp2_with (first | (go_at_call_of 41 a1; refine (C1.out _).mono ?_; rintro e w' ⟨rfl, rfl⟩) | (go_at_call_of 41 a2; refine (C2.out _).mono ?_; rintro e w' ⟨rfl, rfl⟩) | (go_at_call_of 41 a3; refine (C3.out _).mono ?_; rintro e w' ⟨rfl, rfl⟩))
      go_ret
      exact ⟨ret_bool HZ.out.symm, GA.out _⟩
    | true =>
      cases x3 with
      | false =>
        have HZ : Hid (R = false) := by show R = false; rw [HR.out]; rfl
        go_enter Tryz.func19, Tryz.ntmps19
        go_wp2_with (first | (go_at_call_of 41 a1; refine (C1.out _).mono ?_; rintro e w' ⟨rfl, rfl⟩) | (go_at_call_of 41 a2; refine (C2.out _).mono ?_; rintro e w' ⟨rfl, rfl⟩) | (go_at_call_of 41 a3; refine (C3.out _).mono ?_; rintro e w' ⟨rfl, rfl⟩))
        go_ret
        exact ⟨ret_bool HZ.out.symm, GA.out _⟩
      | true =>
        go_enter Tryz.func19, Tryz.ntmps19
        go_wp2_with (first | (go_at_call_of 41 a1; refine (C1.out _).mono ?_; rintro e w' ⟨rfl, rfl⟩) | (go_at_call_of 41 a2; refine (C2.out _).mono ?_; rintro e w' ⟨rfl, rfl⟩) | (go_at_call_of 41 a3; refine (C3.out _).mono ?_; rintro e w' ⟨rfl, rfl⟩) | (go_at_call 42; refine (C4.out _).mono ?_))
        rintro e w4 ⟨rfl, hb4⟩
        have c5 : w4.cell? ⟨w.heap.size, 4, none⟩ = some (.string a5) := (hb4.cell (p := ⟨w.heap.size, 4, none⟩) (by simp)).trans (by rw [Lib.cell_of_heap (heap_alloc_new w _)]; rfl)
        have H4 : Hid (w.grownBy w4 none) := by
          have h := below_gb' hb4
          exact gb_trans (GA.out _) h
        clear hb4
        cases x4 with
        | false =>
          have HZ : Hid (R = false) := by show R = false; rw [HR.out]; rfl
          go_wp2
          go_ret
          exact ⟨ret_bool HZ.out.symm, H4.out⟩
        | true =>
          have HZ : Hid (R = x5) := by show R = x5; rw [HR.out]; rfl
          go_wp2_with (first | (go_at_call 42; refine (C5.out _).mono ?_; rintro e w5 ⟨rfl, hb5⟩))
          go_ret
          exact ⟨ret_bool HZ.out.symm, gb_trans H4.out (below_gb' hb5)⟩

end Go.Proofs.YtegapdmbpkfpmaaGreatDoor

/-
  Lists of spans; the document's SoundSpans, walked.
-/
namespace Go.Proofs.YtegapdmbpkfpmaaGreatDoor
open Go.RowKit
set_option linter.unusedVariables false

/-- a span -/
structure Sp where
  f1 : Int
  f2 : Int
  f3 : Int
  f4 : ByteArray
  f5 : ByteArray
  t1 : Int
  t2 : Int
  t3 : Int
  t4 : ByteArray
  t5 : ByteArray
  o : Bool
/-- its cells -/
def spC (s : Sp) : List Value := [.int .i64 s.f1, .int .i64 s.f2, .int .i64 s.f3, .string s.f4, .string s.f5, .int .i64 s.t1, .int .i64 s.t2, .int .i64 s.t3, .string s.t4, .string s.t5, .bool s.o]
def vFrom (s : Sp) : Vv := ⟨s.f1, s.f2, s.f3, s.f4.data.toList, s.f5.data.toList⟩
def vTo (s : Sp) : Vv := ⟨s.t1, s.t2, s.t3, s.t4.data.toList, s.t5.data.toList⟩
def soundS (s : Sp) : Bool := soundV (vFrom s) && (s.o || soundV (vTo s))
def smallS (s : Sp) : Prop := s.f4.size ≤ 1048576 ∧ s.f5.size ≤ 1048576 ∧ s.t4.size ≤ 1048576 ∧ s.t5.size ≤ 1048576

/-- the span lies at p -/
def EltAt (w : World) (p : Addr) (s : Sp) : Prop := w.cell? p = some (.int .i64 s.f1) ∧ w.cell? ⟨p.block, p.off + 1, none⟩ = some (.int .i64 s.f2) ∧ w.cell? ⟨p.block, p.off + 2, none⟩ = some (.int .i64 s.f3) ∧ w.cell? ⟨p.block, p.off + 3, none⟩ = some (.string s.f4) ∧ w.cell? ⟨p.block, p.off + 4, none⟩ = some (.string s.f5) ∧ w.cell? ⟨p.block, p.off + 5, none⟩ = some (.int .i64 s.t1) ∧ w.cell? ⟨p.block, p.off + 6, none⟩ = some (.int .i64 s.t2) ∧ w.cell? ⟨p.block, p.off + 7, none⟩ = some (.int .i64 s.t3) ∧ w.cell? ⟨p.block, p.off + 8, none⟩ = some (.string s.t4) ∧ w.cell? ⟨p.block, p.off + 9, none⟩ = some (.string s.t5) ∧ w.cell? ⟨p.block, p.off + 10, none⟩ = some (.bool s.o)
theorem EltAt.grow {w w' : World} {p : Addr} {s : Sp} (h : EltAt w p s) (hg : w.grownBy w' none) : EltAt w' p s := by
  obtain ⟨h0, h1, h2, h3, h4, h5, h6, h7, h8, h9, h10⟩ := h
  exact ⟨hg.cell h0 (by simp), hg.cell h1 (by simp), hg.cell h2 (by simp), hg.cell h3 (by simp), hg.cell h4 (by simp), hg.cell h5 (by simp), hg.cell h6 (by simp), hg.cell h7 (by simp), hg.cell h8 (by simp), hg.cell h9 (by simp), hg.cell h10 (by simp)⟩
/-- the spans lie from address a on -/
def SpAt (w : World) (a : Addr) (L : List Sp) : Prop := ∀ i (hi : i < L.length), EltAt w (a.add (i * 11)) L[i]
theorem SpAt.grow {w w' : World} {a : Addr} {L : List Sp} (h : SpAt w a L) (hg : w.grownBy w' none) : SpAt w' a L := fun i hi => (h i hi).grow hg
theorem add_off (a : Addr) (n k : Nat) (hk : 0 < k) : a.add (n + k) = ⟨(a.add n).block, (a.add n).off + k, none⟩ := by
  unfold Addr.add
  rw [if_neg (by omega)]
  by_cases h : n = 0
  · rw [if_pos h, h]; simp
  · rw [if_neg h]; simp [Nat.add_assoc]
theorem elt_of_cells {w : World} {a : Addr} {n : Nat} {s : Sp} (h : ∀ k v, (spC s)[k]? = some v → w.cell? (a.add (n + k)) = some v) : EltAt w (a.add n) s :=
  ⟨by have := h 0 _ rfl; simpa using this, by have := h 1 _ rfl; rw [add_off a n 1 (by omega)] at this; exact this, by have := h 2 _ rfl; rw [add_off a n 2 (by omega)] at this; exact this, by have := h 3 _ rfl; rw [add_off a n 3 (by omega)] at this; exact this, by have := h 4 _ rfl; rw [add_off a n 4 (by omega)] at this; exact this, by have := h 5 _ rfl; rw [add_off a n 5 (by omega)] at this; exact this, by have := h 6 _ rfl; rw [add_off a n 6 (by omega)] at this; exact this, by have := h 7 _ rfl; rw [add_off a n 7 (by omega)] at this; exact this, by have := h 8 _ rfl; rw [add_off a n 8 (by omega)] at this; exact this, by have := h 9 _ rfl; rw [add_off a n 9 (by omega)] at this; exact this, by have := h 10 _ rfl; rw [add_off a n 10 (by omega)] at this; exact this⟩

end Go.Proofs.YtegapdmbpkfpmaaGreatDoor

/-
  The document's order of texts and numbers, walked.
-/
namespace Go.Proofs.YtegapdmbpkfpmaaGreatDoor
open Go.RowKit
set_option linter.unusedVariables false

set_option maxHeartbeats 400000 in
theorem rorder_any (x y : Int) (w : World) : Calls Tryz.prog 93 #[.int .i64 x, .int .i64 y] w fun e w' => e = .returned (.int .i64 (Lib.compareInt x y)) ∧ w' = w := by
  go_enter Tryz.func93, Tryz.ntmps93
  go_wp2
  all_goals go_ret
  all_goals (refine ⟨ret_int ?_, rfl⟩; unfold Lib.compareInt; repeat' split)
  all_goals omega

set_option maxHeartbeats 400000 in
theorem rorderText_any (a b : ByteArray) (w : World) : Calls Tryz.prog 136 #[.string a, .string b] w fun e w' => e = .returned (.int .i64 (Lib.compareBytes a.data.toList b.data.toList)) ∧ w' = w := by
  cases h1 : Op.bytesLess a.toList b.toList with
  | true =>
    rw [less_m1 h1]
    go_enter Tryz.func136, Tryz.ntmps136
    go_wp2
    go_ret
    exact ⟨rfl, rfl⟩
  | false =>
    cases h2 : (!a.toList == b.toList) with
    | true =>
      rw [less_p1 h1 h2]
      go_enter Tryz.func136, Tryz.ntmps136
      go_wp2
      go_ret
      exact ⟨rfl, rfl⟩
    | false =>
      rw [less_0 h2]
      go_enter Tryz.func136, Tryz.ntmps136
      go_wp2
      go_ret
      exact ⟨rfl, rfl⟩

theorem bareR_stop (l : List UInt8) (h : l.length ≤ 1 ∨ l[0]? ≠ some 48) : bareR l = l := by
  match l with
  | [] => rfl
  | [c] => rfl
  | c :: d :: r =>
    have : c ≠ 48 := by
      rcases h with h | h
      · simp at h
      · simpa using h
    unfold bareR; rw [if_neg this]
theorem bareR_step (l : List UInt8) (h1 : 1 < l.length) (h : l[0]? = some 48) : bareR l = bareR (l.drop 1) := by
  match l with
  | [] => simp at h1
  | [c] => simp at h1
  | c :: d :: r =>
    have : c = 48 := by simpa using h
    conv => lhs; unfold bareR
    rw [if_pos this]; rfl
theorem mk_data (x : ByteArray) : (⟨x.data.toList.toArray⟩ : ByteArray) = x := by cases x; simp

set_option maxHeartbeats 400000 in
theorem rbare_any (s : ByteArray) (w : World) (hs : s.size < 2 ^ 62) :
    Calls Tryz.prog 137 #[.string s] w fun e w' => e = .returned (.string ⟨(bareR s.data.toList).toArray⟩) ∧ w' = w := by
  obtain ⟨R, hR⟩ : ∃ R, R = bareR s.data.toList := ⟨_, rfl⟩
  have HR : Hid (R = bareR s.data.toList) := hR
  rw [← hR]
  clear hR
  go_enter Tryz.func137, Tryz.ntmps137
  go_wp2
  go_loop [0] (fun v => ∃ x : ByteArray, v = .string x ∧ R = bareR x.data.toList) (fun v => sizeV v)
  case atStart => exact ⟨s, rfl, HR.out⟩
  case round =>
    obtain ⟨x, rfl, hr⟩ := hrel
    have HX : Hid (R = bareR x.data.toList) := hr
    clear hr
    by_cases h1 : 1 < x.size
    · have h0 : 0 < x.size := by omega
      cases hz : ((x[0].toNat : Int) == 48) with
      | true =>
        have hc : x[0] = 48 := UInt8.toNat_inj.1 (by have := eq_of_beq hz; have e48 : (48 : UInt8).toNat = 48 := rfl; omega)
        obtain ⟨Y, hY⟩ : ∃ Y : ByteArray, Y = ⟨(x.data.toList.drop 1).toArray⟩ := ⟨_, rfl⟩
        have HY : Hid (R = bareR Y.data.toList) := by
          show R = bareR Y.data.toList
          rw [HX.out, bareR_step _ (by simpa using h1) (by rw [get_data x 0 h0, hc]), hY]
        have HL : Hid (Y.size < x.size) := by
          show Y.size < x.size
          rw [hY]; show (x.data.toList.drop 1).toArray.size < x.size
          simp; omega
        have sl : ∀ wx, (Instr.slice 9 (.string x) (some (.int .i64 1)) none none).run Tryz.prog wx = .ok (.string Y) wx := fun wx => by rw [hY]; exact run_suf x 1 (by omega) wx
        clear hY hc
        go_wp2
        go_round
        case rel => exact ⟨Y, rfl, HY.out⟩
        case measure => exact HL.out
      | false =>
        have HS : Hid (R = x.data.toList) := by
          show R = x.data.toList
          rw [HX.out]
          refine bareR_stop _ (Or.inr ?_)
          rw [get_data x 0 h0]
          intro e
          have e' : x[0] = 48 := Option.some.inj e
          rw [e'] at hz
          exact absurd hz (by decide)
        go_wp2
        go_ret
        exact ⟨by rw [HS.out, mk_data]; rfl, rfl⟩
    · have HS : Hid (R = x.data.toList) := by
        show R = x.data.toList
        rw [HX.out]
        exact bareR_stop _ (Or.inl (by simp; exact Nat.le_of_not_lt h1))
      go_wp2
      go_ret
      exact ⟨by rw [HS.out, mk_data]; rfl, rfl⟩

end Go.Proofs.YtegapdmbpkfpmaaGreatDoor
