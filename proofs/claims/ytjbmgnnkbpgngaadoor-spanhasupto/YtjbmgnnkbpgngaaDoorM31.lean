import Derived.Test.YtjbmgnnkbpgngaaDoorM16
import Derived.Test.YtjbmgnnkbpgngaaDoorM05
/-
  equal of the law, walked, of any two lists.
-/
namespace Go.Proofs.YtjbmgnnkbpgngaaDoor
open Go.RowKit
set_option linter.unusedVariables false

theorem bytes_ne {a b : ByteArray} (h : ¬ a = b) : (a.toList == b.toList) = false := by
  rw [beq_eq_false_iff_ne]
  intro e
  apply h
  rw [Go.Lib.toList_data, Go.Lib.toList_data] at e
  cases a; cases b; simp only at e; rw [Array.toList_inj.1 e]

set_option maxRecDepth 100000 in
set_option maxHeartbeats 1600000 in
theorem equal_len (x y : Option Addr) (m n c d : Nat) (w : World) (h : m ≠ n) : Calls Tryd.prog 13 #[.slice x m c, .slice y n d] w fun e w' => e = .returned (.bool false) ∧ w.grownBy w' none := by
  have hne : ¬ ((m : Int) = (n : Int)) := by omega
  go_enter Tryd.func13, Tryd.ntmps13
  go_wp2
  go_ret
  exact ⟨rfl, gb_refl _ _⟩

set_option maxRecDepth 100000 in
set_option maxHeartbeats 6400000 in
theorem equal_gen (a b : Addr) (capa capb : Nat) (L M : List Sp) (w : World) (hl : M.length = L.length) (hL : L.length < 2 ^ 62) (ha : L.length ≤ capa) (hb : L.length ≤ capb) (h : SpAt w a L) (h' : SpAt w b M) :
    Calls Tryd.prog 13 #[.slice (some a) L.length capa, .slice (some b) L.length capb] w fun e w' => (∃ r, e = .returned (.bool r) ∧ (r = true ↔ L = M)) ∧ w.grownBy w' none := by
  have HA : Hid (SpAt w a L) := h
  have HB : Hid (SpAt w b M) := h'
  have HL : Hid (M.length = L.length) := hl
  clear h h' hl
  go_enter Tryd.func13, Tryd.ntmps13
  go_wp2
  go_loopw [5] (fun vi wr => ∃ i : Nat, vi = .int .i64 i ∧ i ≤ L.length ∧ (∀ j (hj : j < i), L[j]? = M[j]?) ∧ w.grownBy wr none) (fun vi _ => L.length - (intOf vi).toNat)
  case atStart => exact ⟨0, rfl, Nat.zero_le _, fun j hj => absurd hj (by omega), gb_refl _ _⟩
  case round =>
    obtain ⟨i, rfl, hi, hp, hg⟩ := hrel
    have HP : Hid (∀ j (hj : j < i), L[j]? = M[j]?) := hp
    have HG : Hid (w.grownBy wr none) := hg
    clear hg hp
    by_cases hlt : i < L.length
    · obtain ⟨s, hs⟩ : ∃ s, L[i] = s := ⟨_, rfl⟩
      obtain ⟨t, ht⟩ : ∃ t, M[i]'(by rw [HL.out]; exact hlt) = t := ⟨_, rfl⟩
      have HE : Hid (EltAt wr (a.add (i * 11)) s) := by show EltAt wr _ s; rw [← hs]; exact (HA.out i hlt).grow HG.out
      have HF : Hid (EltAt wr (b.add (i * 11)) t) := by show EltAt wr _ t; rw [← ht]; exact (HB.out i (by rw [HL.out]; exact hlt)).grow HG.out
      have HS : Hid (L[i]? = some s ∧ M[i]? = some t) := ⟨by rw [← hs]; exact List.getElem?_eq_getElem _, by rw [← ht]; exact List.getElem?_eq_getElem _⟩
      clear hs ht
      obtain ⟨x1, x2, x3, x4, x5, x6, x7, x8, x9, x10, x11⟩ := s
      obtain ⟨y1, y2, y3, y4, y5, y6, y7, y8, y9, y10, y11⟩ := t
      obtain ⟨e0, e1, e2, e3, e4, e5, e6, e7, e8, e9, e10⟩ := HE.out
      obtain ⟨f0, f1, f2, f3, f4, f5, f6, f7, f8, f9, f10⟩ := HF.out
      dsimp only at e0 e1 e2 e3 e4 e5 e6 e7 e8 e9 e10 f0 f1 f2 f3 f4 f5 f6 f7 f8 f9 f10
      clear HE HF
      by_cases c1 : x1 = y1
      rotate_left
      · have HN : Hid (¬ L = M) := fun h => by
          have h1 := HS.out.1
          rw [h, HS.out.2] at h1
          simp at h1
          exact c1 (by simp [h1])
        clear HS HP
        go_wp2
        go_quiet (fail)
        go_wp2
        go_ret
        exact ⟨⟨false, rfl, by simp, fun h => absurd h HN.out⟩, gb_drew HG.out _⟩
      subst c1
      by_cases c2 : x2 = y2
      rotate_left
      · have HN : Hid (¬ L = M) := fun h => by
          have h1 := HS.out.1
          rw [h, HS.out.2] at h1
          simp at h1
          exact c2 (by simp [h1])
        clear HS HP
        go_wp2
        go_quiet (fail)
        go_wp2
        go_ret
        exact ⟨⟨false, rfl, by simp, fun h => absurd h HN.out⟩, gb_drew HG.out _⟩
      subst c2
      by_cases c3 : x3 = y3
      rotate_left
      · have HN : Hid (¬ L = M) := fun h => by
          have h1 := HS.out.1
          rw [h, HS.out.2] at h1
          simp at h1
          exact c3 (by simp [h1])
        clear HS HP
        go_wp2
        go_quiet (fail)
        go_wp2
        go_ret
        exact ⟨⟨false, rfl, by simp, fun h => absurd h HN.out⟩, gb_drew HG.out _⟩
      subst c3
      by_cases c4 : x4 = y4
      rotate_left
      · have HN : Hid (¬ L = M) := fun h => by
          have h1 := HS.out.1
          rw [h, HS.out.2] at h1
          simp at h1
          exact c4 (by simp [h1])
        have n4 := bytes_ne c4
        clear HS HP
        go_wp2
        go_quiet (fail)
        go_wp2
        go_ret
        exact ⟨⟨false, rfl, by simp, fun h => absurd h HN.out⟩, gb_drew HG.out _⟩
      subst c4
      by_cases c5 : x5 = y5
      rotate_left
      · have q4 : (x4.toList == x4.toList) = true := by simp
        have HN : Hid (¬ L = M) := fun h => by
          have h1 := HS.out.1
          rw [h, HS.out.2] at h1
          simp at h1
          exact c5 (by simp [h1])
        have n5 := bytes_ne c5
        clear HS HP
        go_wp2
        go_quiet (fail)
        go_wp2
        go_ret
        exact ⟨⟨false, rfl, by simp, fun h => absurd h HN.out⟩, gb_drew HG.out _⟩
      subst c5
      by_cases c6 : x6 = y6
      rotate_left
      · have q4 : (x4.toList == x4.toList) = true := by simp
        have q5 : (x5.toList == x5.toList) = true := by simp
        have HN : Hid (¬ L = M) := fun h => by
          have h1 := HS.out.1
          rw [h, HS.out.2] at h1
          simp at h1
          exact c6 (by simp [h1])
        clear HS HP
        go_wp2
        go_quiet (fail)
        go_wp2
        go_ret
        exact ⟨⟨false, rfl, by simp, fun h => absurd h HN.out⟩, gb_drew HG.out _⟩
      subst c6
      by_cases c7 : x7 = y7
      rotate_left
      · have q4 : (x4.toList == x4.toList) = true := by simp
        have q5 : (x5.toList == x5.toList) = true := by simp
        have HN : Hid (¬ L = M) := fun h => by
          have h1 := HS.out.1
          rw [h, HS.out.2] at h1
          simp at h1
          exact c7 (by simp [h1])
        clear HS HP
        go_wp2
        go_quiet (fail)
        go_wp2
        go_ret
        exact ⟨⟨false, rfl, by simp, fun h => absurd h HN.out⟩, gb_drew HG.out _⟩
      subst c7
      by_cases c8 : x8 = y8
      rotate_left
      · have q4 : (x4.toList == x4.toList) = true := by simp
        have q5 : (x5.toList == x5.toList) = true := by simp
        have HN : Hid (¬ L = M) := fun h => by
          have h1 := HS.out.1
          rw [h, HS.out.2] at h1
          simp at h1
          exact c8 (by simp [h1])
        clear HS HP
        go_wp2
        go_quiet (fail)
        go_wp2
        go_ret
        exact ⟨⟨false, rfl, by simp, fun h => absurd h HN.out⟩, gb_drew HG.out _⟩
      subst c8
      by_cases c9 : x9 = y9
      rotate_left
      · have q4 : (x4.toList == x4.toList) = true := by simp
        have q5 : (x5.toList == x5.toList) = true := by simp
        have HN : Hid (¬ L = M) := fun h => by
          have h1 := HS.out.1
          rw [h, HS.out.2] at h1
          simp at h1
          exact c9 (by simp [h1])
        have n9 := bytes_ne c9
        clear HS HP
        go_wp2
        go_quiet (fail)
        go_wp2
        go_ret
        exact ⟨⟨false, rfl, by simp, fun h => absurd h HN.out⟩, gb_drew HG.out _⟩
      subst c9
      by_cases c10 : x10 = y10
      rotate_left
      · have q4 : (x4.toList == x4.toList) = true := by simp
        have q5 : (x5.toList == x5.toList) = true := by simp
        have q9 : (x9.toList == x9.toList) = true := by simp
        have HN : Hid (¬ L = M) := fun h => by
          have h1 := HS.out.1
          rw [h, HS.out.2] at h1
          simp at h1
          exact c10 (by simp [h1])
        have n10 := bytes_ne c10
        clear HS HP
        go_wp2
        go_quiet (fail)
        go_wp2
        go_ret
        exact ⟨⟨false, rfl, by simp, fun h => absurd h HN.out⟩, gb_drew HG.out _⟩
      subst c10
      by_cases c11 : x11 = y11
      rotate_left
      · have q4 : (x4.toList == x4.toList) = true := by simp
        have q5 : (x5.toList == x5.toList) = true := by simp
        have q9 : (x9.toList == x9.toList) = true := by simp
        have q10 : (x10.toList == x10.toList) = true := by simp
        have HN : Hid (¬ L = M) := fun h => by
          have h1 := HS.out.1
          rw [h, HS.out.2] at h1
          simp at h1
          exact c11 (by simp [h1])
        have n11 : (x11 == y11) = false := by simpa using c11
        clear HS HP
        go_wp2
        go_quiet (fail)
        go_wp2
        go_ret
        exact ⟨⟨false, rfl, by simp, fun h => absurd h HN.out⟩, gb_drew HG.out _⟩
      subst c11
      have q4 : (x4.toList == x4.toList) = true := by simp
      have q5 : (x5.toList == x5.toList) = true := by simp
      have q9 : (x9.toList == x9.toList) = true := by simp
      have q10 : (x10.toList == x10.toList) = true := by simp
      go_wp2
      go_quiet (fail)
      go_wp2
      go_roundw
      case rel =>
        refine ⟨i + 1, by go_num, by omega, ?_, gb_drew HG.out _⟩
        intro j hj
        by_cases hji : j < i
        · exact HP.out j hji
        · have e : j = i := by omega
          rw [e, HS.out.1, HS.out.2]
      case measure => simp [intOf]; omega
    · have HI : Hid (i = L.length) := by show i = L.length; omega
      clear hi
      go_wp2
      go_ret
      refine ⟨⟨true, rfl, fun _ => ?_, fun _ => rfl⟩, HG.out⟩
      apply List.ext_getElem?
      intro j
      by_cases hj : j < L.length
      · exact HP.out j (by rw [HI.out]; exact hj)
      · rw [List.getElem?_eq_none (by omega), List.getElem?_eq_none (by have := HL.out; omega)]

theorem cEqualG (sl sm : Value) (L M : List Sp) (w : World) (h : SpS w sl L) (h' : SpS w sm M) (hL : L.length ≤ 4194304) :
    Calls Tryd.prog 13 #[sl, sm] w fun e w' => (∃ r, e = .returned (.bool r) ∧ (r = true ↔ L = M)) ∧ w.grownBy w' none := by
  by_cases hl : M.length = L.length
  · rcases h with ⟨rfl, rfl⟩ | ⟨a, cap, rfl, h2, h3⟩
    · have hM : M = [] := List.eq_nil_of_length_eq_zero (by simpa using hl)
      subst hM
      refine (cEqual _ _ [] w (Or.inl ⟨rfl, rfl⟩) h' (by simp)).mono ?_
      rintro e w' ⟨rfl, hg⟩
      exact ⟨⟨true, rfl, by simp⟩, hg⟩
    · rcases h' with ⟨rfl, rfl⟩ | ⟨b, cap', rfl, h4, h5⟩
      · have hM : L = [] := List.eq_nil_of_length_eq_zero (by simpa using hl.symm)
        subst hM
        refine (cEqual _ _ [] w (Or.inr ⟨a, cap, rfl, h2, h3⟩) (Or.inl ⟨rfl, rfl⟩) (by simp)).mono ?_
        rintro e w' ⟨rfl, hg⟩
        exact ⟨⟨true, rfl, by simp⟩, hg⟩
      · rw [hl]
        exact equal_gen a b cap cap' L M w hl (by omega) h2 (by omega) h3 h5
  · obtain ⟨x, c, rfl⟩ : ∃ x c, sl = .slice x L.length c := by
      rcases h with ⟨rfl, rfl⟩ | ⟨a, cap, rfl, h2, h3⟩
      · exact ⟨_, _, rfl⟩
      · exact ⟨_, _, rfl⟩
    obtain ⟨y, d, rfl⟩ : ∃ x c, sm = .slice x M.length c := by
      rcases h' with ⟨rfl, rfl⟩ | ⟨a, cap, rfl, h2, h3⟩
      · exact ⟨_, _, rfl⟩
      · exact ⟨_, _, rfl⟩
    refine (equal_len x y _ _ c d w (fun e => hl e.symm)).mono ?_
    rintro e w' ⟨rfl, hg⟩
    exact ⟨⟨false, rfl, by simp; intro h; exact hl (by rw [h])⟩, hg⟩
end Go.Proofs.YtjbmgnnkbpgngaaDoor

/-
  An errno as a number, walked.
-/
namespace Go.Proofs.YtjbmgnnkbpgngaaDoor
open Go.RowKit
set_option linter.unusedVariables false

set_option maxHeartbeats 400000 in
theorem lnum_any (n : Int) (w : World) : Calls Tryd.prog 8 #[.int .i64 n] w fun e w' => e = .returned (.int .i64 n) ∧ w' = w := by
  go_enter Tryd.func8, Tryd.ntmps8
  go_wp2
  go_ret
  exact ⟨rfl, rfl⟩
theorem lnum_gb (n : Int) (w : World) : Calls Tryd.prog 8 #[.int .i64 n] w fun e w' => e = .returned (.int .i64 n) ∧ w.grownBy w' none := by
  refine (lnum_any n w).mono ?_
  rintro e w' ⟨rfl, rfl⟩
  exact ⟨rfl, gb_refl _ _⟩

end Go.Proofs.YtjbmgnnkbpgngaaDoor
