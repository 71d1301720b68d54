/-
  Names: both walked to one function of bytes.
-/
import Derived.Test.YtnppapldbdpnmaaProg
import Derived.WalkKit
import Derived.WalkSpells
import Derived.WalkLawsBesides
import Derived.Deep.QuietTactic
import Derived.BigQuiet
import Derived.Below
namespace Go.Proofs.Ytnppapldbdpnmaa
open Go.RowKit
set_option linter.unusedVariables false
/-- a fact kept away from the walk -/
def Hid (p : Prop) : Prop := p
theorem Hid.out {p : Prop} (h : Hid p) : p := h
theorem ret_bool {a b : Bool} (h : a = b) : Ending.returned (.bool a) = .returned (.bool b) := by rw [h]
def isD (c : UInt8) : Bool := decide (48 ≤ c.toNat ∧ c.toNat ≤ 57)
def isL (c : UInt8) : Bool := decide (97 ≤ c.toNat ∧ c.toNat ≤ 122)
def isN (c : UInt8) : Bool := isL c || isD c || decide (c.toNat = 45) || decide (c.toNat = 95)
/-- what a name is -/
def NameP (s : ByteArray) : Prop := 1 ≤ s.size ∧ s.size ≤ 30 ∧ (∀ h : 0 < s.size, isL s[0] = true) ∧ ∀ j, (hj : j < s.size) → 1 ≤ j → isN s[j] = true
open Classical in
noncomputable def nameB (s : ByteArray) : Bool := decide (NameP s)
theorem nameB_t {s : ByteArray} (h : NameP s) : nameB s = true := by simp [nameB, h]
theorem nameB_f {s : ByteArray} (h : ¬ NameP s) : nameB s = false := by simp [nameB, h]

set_option maxHeartbeats 400000 in
theorem isLetter_any (c : UInt8) (w : World) : Calls Try.prog 6 #[.int .u8 (c.toNat : Int)] w fun e w' => e = .returned (.bool (isL c)) ∧ w' = w := by
  go_enter Try.func6, Try.ntmps6
  go_wp2
  all_goals go_ret
  all_goals (refine ⟨ret_bool ?_, rfl⟩; rw [Bool.eq_iff_iff]; simp_all [isL] <;> omega)

set_option maxHeartbeats 400000 in
theorem isNameByte_any (c : UInt8) (w : World) : Calls Try.prog 7 #[.int .u8 (c.toNat : Int)] w fun e w' => e = .returned (.bool (isN c)) ∧ w' = w := by
  go_enter Try.func7, Try.ntmps7
  go_wp2_with (first | (go_at_call 6; refine (isLetter_any _ _).mono ?_; rintro e w' ⟨rfl, rfl⟩))
  all_goals go_ret
  all_goals (refine ⟨ret_bool ?_, rfl⟩; rw [Bool.eq_iff_iff]; simp_all [isN, isD] <;> omega)

set_option maxHeartbeats 400000 in
theorem rletter_any (c : UInt8) (w : World) : Calls Try.prog 8 #[.int .u8 (c.toNat : Int)] w fun e w' => e = .returned (.bool (isL c)) ∧ w' = w := by
  go_enter Try.func8, Try.ntmps8
  go_wp2
  all_goals go_ret
  all_goals (refine ⟨ret_bool ?_, rfl⟩; rw [Bool.eq_iff_iff]; simp_all [isL] <;> omega)

set_option maxHeartbeats 400000 in
theorem rdigit_any (c : UInt8) (w : World) : Calls Try.prog 9 #[.int .u8 (c.toNat : Int)] w fun e w' => e = .returned (.bool (isD c)) ∧ w' = w := by
  go_enter Try.func9, Try.ntmps9
  go_wp2
  all_goals go_ret
  all_goals (refine ⟨ret_bool ?_, rfl⟩; rw [Bool.eq_iff_iff]; simp_all [isD] <;> omega)

set_option maxHeartbeats 4000000 in
theorem name_any (s : ByteArray) (w : World) (hs : s.size < 2 ^ 62) :
    Calls Try.prog 4 #[.string s] w fun e w' => e = .returned (.bool (nameB s)) ∧ w' = w := by
  obtain ⟨R, hR⟩ : ∃ R, R = nameB s := ⟨_, rfl⟩
  have HR : Hid (R = nameB s) := hR
  rw [← hR]
  clear hR
  by_cases h0 : s.size = 0
  · have HN : Hid (R = false) := HR.out.trans (nameB_f fun h => absurd h.1 (by omega))
    go_enter Try.func4, Try.ntmps4
    go_wp2
    go_ret
    exact ⟨ret_bool HN.out.symm, rfl⟩
  by_cases h30 : 30 < s.size
  · have HN : Hid (R = false) := HR.out.trans (nameB_f fun h => absurd h.2.1 (by omega))
    have h1 : ¬ s.size < 1 := by omega
    go_enter Try.func4, Try.ntmps4
    go_wp2
    go_ret
    exact ⟨ret_bool HN.out.symm, rfl⟩
  have hpos : 0 < s.size := by omega
  have g1 : ((s.size : Int) == 0) = false := by rw [beq_eq_false_iff_ne]; omega
  have g2 : decide (30 < (s.size : Int)) = false := by rw [decide_eq_false_iff_not]; omega
  have g3 : decide ((s.size : Int) < 1) = false := by rw [decide_eq_false_iff_not]; omega
  cases hl : isL s[0] with
  | false =>
    have HN : Hid (R = false) := HR.out.trans (nameB_f fun h => by have := h.2.2.1 hpos; rw [hl] at this; cases this)
    go_enter Try.func4, Try.ntmps4
    go_wp2_with (first | (go_at_call 6; refine (isLetter_any _ _).mono ?_; rintro e w' ⟨rfl, rfl⟩) | (go_at_call 7; refine (isNameByte_any _ _).mono ?_; rintro e w' ⟨rfl, rfl⟩))
    go_ret
    exact ⟨ret_bool HN.out.symm, rfl⟩
  | true =>
    go_enter Try.func4, Try.ntmps4
    go_wp2_with (first | (go_at_call 6; refine (isLetter_any _ _).mono ?_; rintro e w' ⟨rfl, rfl⟩) | (go_at_call 7; refine (isNameByte_any _ _).mono ?_; rintro e w' ⟨rfl, rfl⟩))
    go_loop [3] (fun i => ∃ k : Nat, 1 ≤ k ∧ k ≤ s.size ∧ i = .int .i64 k ∧ ∀ j, (hj : j < s.size) → j < k → 1 ≤ j → isN s[j] = true) (fun i => s.size - (intOf i).toNat)
    case atStart => exact ⟨1, Nat.le_refl _, by omega, rfl, fun j hj h h' => absurd h (by omega)⟩
    case round =>
      obtain ⟨k, hk1, hk, rfl, hp⟩ := hrel
      have HP : Hid (∀ j, (hj : j < s.size) → j < k → 1 ≤ j → isN s[j] = true) := hp
      clear hp
      clear g1 g2 g3
      by_cases hlt : k < s.size
      · cases hd : isN s[k] with
        | true =>
          go_wp2_with (first | (go_at_call 6; refine (isLetter_any _ _).mono ?_; rintro e w' ⟨rfl, rfl⟩) | (go_at_call 7; refine (isNameByte_any _ _).mono ?_; rintro e w' ⟨rfl, rfl⟩))
          all_goals go_round
          case rel =>
            refine ⟨k + 1, by omega, by omega, by go_num, fun j hj hjk hj1 => ?_⟩
            by_cases hjk' : j < k
            · exact HP.out j hj hjk' hj1
            · have e : j = k := by omega
              subst e
              exact hd
          case measure => simp [intOf]; omega
        | false =>
          have HN : Hid (R = false) := HR.out.trans (nameB_f fun h => by have := h.2.2.2 k hlt hk1; rw [hd] at this; cases this)
          go_wp2_with (first | (go_at_call 6; refine (isLetter_any _ _).mono ?_; rintro e w' ⟨rfl, rfl⟩) | (go_at_call 7; refine (isNameByte_any _ _).mono ?_; rintro e w' ⟨rfl, rfl⟩))
          go_ret
          exact ⟨ret_bool HN.out.symm, rfl⟩
      · have HN : Hid (R = true) := HR.out.trans (nameB_t ⟨by omega, by omega, fun _ => hl, fun j hj h => HP.out j hj (by omega) h⟩)
        clear hk
        go_wp2
        go_ret
        exact ⟨ret_bool HN.out.symm, rfl⟩

set_option maxHeartbeats 4000000 in
theorem rname_any (s : ByteArray) (w : World) (hs : s.size < 2 ^ 62) :
    Calls Try.prog 5 #[.string s] w fun e w' => e = .returned (.bool (nameB s)) ∧ w' = w := by
  obtain ⟨R, hR⟩ : ∃ R, R = nameB s := ⟨_, rfl⟩
  have HR : Hid (R = nameB s) := hR
  rw [← hR]
  clear hR
  by_cases h0 : s.size = 0
  · have HN : Hid (R = false) := HR.out.trans (nameB_f fun h => absurd h.1 (by omega))
    go_enter Try.func5, Try.ntmps5
    go_wp2
    go_ret
    exact ⟨ret_bool HN.out.symm, rfl⟩
  by_cases h30 : 30 < s.size
  · have HN : Hid (R = false) := HR.out.trans (nameB_f fun h => absurd h.2.1 (by omega))
    have h1 : ¬ s.size < 1 := by omega
    go_enter Try.func5, Try.ntmps5
    go_wp2
    go_ret
    exact ⟨ret_bool HN.out.symm, rfl⟩
  have hpos : 0 < s.size := by omega
  have g1 : ((s.size : Int) == 0) = false := by rw [beq_eq_false_iff_ne]; omega
  have g2 : decide (30 < (s.size : Int)) = false := by rw [decide_eq_false_iff_not]; omega
  have g3 : decide ((s.size : Int) < 1) = false := by rw [decide_eq_false_iff_not]; omega
  cases hl : isL s[0] with
  | false =>
    have HN : Hid (R = false) := HR.out.trans (nameB_f fun h => by have := h.2.2.1 hpos; rw [hl] at this; cases this)
    go_enter Try.func5, Try.ntmps5
    go_wp2_with (first | (go_at_call 8; refine (rletter_any _ _).mono ?_; rintro e w' ⟨rfl, rfl⟩) | (go_at_call 9; refine (rdigit_any _ _).mono ?_; rintro e w' ⟨rfl, rfl⟩))
    go_ret
    exact ⟨ret_bool HN.out.symm, rfl⟩
  | true =>
    go_enter Try.func5, Try.ntmps5
    go_wp2_with (first | (go_at_call 8; refine (rletter_any _ _).mono ?_; rintro e w' ⟨rfl, rfl⟩) | (go_at_call 9; refine (rdigit_any _ _).mono ?_; rintro e w' ⟨rfl, rfl⟩))
    go_loop [3] (fun i => ∃ k : Nat, 1 ≤ k ∧ k ≤ s.size ∧ i = .int .i64 k ∧ ∀ j, (hj : j < s.size) → j < k → 1 ≤ j → isN s[j] = true) (fun i => s.size - (intOf i).toNat)
    case atStart => exact ⟨1, Nat.le_refl _, by omega, rfl, fun j hj h h' => absurd h (by omega)⟩
    case round =>
      obtain ⟨k, hk1, hk, rfl, hp⟩ := hrel
      have HP : Hid (∀ j, (hj : j < s.size) → j < k → 1 ≤ j → isN s[j] = true) := hp
      clear hp
      clear g1 g2 g3
      by_cases hlt : k < s.size
      · cases hd : isN s[k] with
        | true =>
          rcases Bool.eq_false_or_eq_true (isL s[k]) with a1 | a1
          · go_wp2_with (first | (go_at_call 8; refine (rletter_any _ _).mono ?_; rintro e w' ⟨rfl, rfl⟩) | (go_at_call 9; refine (rdigit_any _ _).mono ?_; rintro e w' ⟨rfl, rfl⟩))
            go_round
            case rel =>
              refine ⟨k + 1, by omega, by omega, by go_num, fun j hj hjk hj1 => ?_⟩
              by_cases hjk' : j < k
              · exact HP.out j hj hjk' hj1
              · have e : j = k := by omega
                subst e
                exact hd
            case measure => simp [intOf]; omega
          rcases Bool.eq_false_or_eq_true (isD s[k]) with a2 | a2
          · go_wp2_with (first | (go_at_call 8; refine (rletter_any _ _).mono ?_; rintro e w' ⟨rfl, rfl⟩) | (go_at_call 9; refine (rdigit_any _ _).mono ?_; rintro e w' ⟨rfl, rfl⟩))
            go_round
            case rel =>
              refine ⟨k + 1, by omega, by omega, by go_num, fun j hj hjk hj1 => ?_⟩
              by_cases hjk' : j < k
              · exact HP.out j hj hjk' hj1
              · have e : j = k := by omega
                subst e
                exact hd
            case measure => simp [intOf]; omega
          by_cases a3 : s[k].toNat = 45
          · have b3 : ((s[k].toNat : Int) != 45) = false := by rw [a3]; rfl
            have b5 : ((s[k].toNat : Int) != 95) = true := by rw [a3]; rfl
            clear a3
            go_wp2_with (first | (go_at_call 8; refine (rletter_any _ _).mono ?_; rintro e w' ⟨rfl, rfl⟩) | (go_at_call 9; refine (rdigit_any _ _).mono ?_; rintro e w' ⟨rfl, rfl⟩))
            go_round
            case rel =>
              refine ⟨k + 1, by omega, by omega, by go_num, fun j hj hjk hj1 => ?_⟩
              by_cases hjk' : j < k
              · exact HP.out j hj hjk' hj1
              · have e : j = k := by omega
                subst e
                exact hd
            case measure => simp [intOf]; omega
          · have b3 : ((s[k].toNat : Int) != 45) = true := by rw [bne_iff_ne]; omega
            have b4 : ((s[k].toNat : Int) != 95) = false := by unfold isN at hd; simp [a1, a2, a3] at hd; rw [hd]; rfl
            clear a3
            go_wp2_with (first | (go_at_call 8; refine (rletter_any _ _).mono ?_; rintro e w' ⟨rfl, rfl⟩) | (go_at_call 9; refine (rdigit_any _ _).mono ?_; rintro e w' ⟨rfl, rfl⟩))
            go_round
            case rel =>
              refine ⟨k + 1, by omega, by omega, by go_num, fun j hj hjk hj1 => ?_⟩
              by_cases hjk' : j < k
              · exact HP.out j hj hjk' hj1
              · have e : j = k := by omega
                subst e
                exact hd
            case measure => simp [intOf]; omega
        | false =>
          have HN : Hid (R = false) := HR.out.trans (nameB_f fun h => by have := h.2.2.2 k hlt hk1; rw [hd] at this; cases this)
          obtain ⟨a1, a2, a3, a4⟩ : isL s[k] = false ∧ isD s[k] = false ∧ ¬ s[k].toNat = 45 ∧ ¬ s[k].toNat = 95 := by
            unfold isN at hd; simpa [and_assoc] using hd
          have b3 : ((s[k].toNat : Int) != 45) = true := by rw [bne_iff_ne]; omega
          have b4 : ((s[k].toNat : Int) != 95) = true := by rw [bne_iff_ne]; omega
          clear a3 a4
          go_wp2_with (first | (go_at_call 8; refine (rletter_any _ _).mono ?_; rintro e w' ⟨rfl, rfl⟩) | (go_at_call 9; refine (rdigit_any _ _).mono ?_; rintro e w' ⟨rfl, rfl⟩))
          go_ret
          exact ⟨ret_bool HN.out.symm, rfl⟩
      · have HN : Hid (R = true) := HR.out.trans (nameB_t ⟨by omega, by omega, fun _ => hl, fun j hj h => HP.out j hj (by omega) h⟩)
        clear hk
        go_wp2
        go_ret
        exact ⟨ret_bool HN.out.symm, rfl⟩

set_option maxHeartbeats 400000 in
theorem namesLaw (s : ByteArray) (w : World) (hs : s.size < 2 ^ 62) :
    Calls Try.prog 3 #[.string s] w fun e w' => e = .returned (.bool true) ∧ w' = w := by
  obtain ⟨R, hR⟩ : ∃ R, R = nameB s := ⟨_, rfl⟩
  have C1 : Hid (∀ w, Calls Try.prog 4 #[.string s] w fun e w' => e = .returned (.bool R) ∧ w' = w) := fun w => by rw [hR]; exact name_any s w hs
  have C2 : Hid (∀ w, Calls Try.prog 5 #[.string s] w fun e w' => e = .returned (.bool R) ∧ w' = w) := fun w => by rw [hR]; exact rname_any s w hs
  clear hR
  go_enter Try.func3, Try.ntmps3
  go_wp2_with (first | (go_at_call 4; refine (C1.out _).mono ?_; rintro e w' ⟨rfl, rfl⟩) | (go_at_call 5; refine (C2.out _).mono ?_; rintro e w' ⟨rfl, rfl⟩))
  go_ret
  exact ⟨ret_bool (by simp), rfl⟩
end Go.Proofs.Ytnppapldbdpnmaa
