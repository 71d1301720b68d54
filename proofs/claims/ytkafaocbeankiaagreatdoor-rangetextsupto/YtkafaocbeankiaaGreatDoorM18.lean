import Derived.Test.YtkafaocbeankiaaGreatDoorM17
import Derived.Test.YtkafaocbeankiaaGreatDoorM04
/-
  Parts passed over by the reader, walked.
-/
namespace Go.Proofs.YtkafaocbeankiaaGreatDoor
open Go.RowKit
set_option linter.unusedVariables false

theorem emp_t2 {a : ByteArray} (h : a.size = 0) : a.toList.isEmpty = true := by
  rw [Lib.toList_data, List.isEmpty_iff]; exact List.length_eq_zero_iff.1 (by simpa using h)
theorem emp_f2 {a : ByteArray} (h : a.size ≠ 0) : a.toList.isEmpty = false := by
  rw [Lib.toList_data]
  cases hl : a.data.toList with
  | nil => exact absurd (show a.size = 0 from by show a.data.size = 0; rw [← Array.length_toList, hl]; rfl) h
  | cons c l => rfl
theorem RS.grow {b : Nat} {s : ByteArray} {i : Nat} {w w' : World} (h : RS b s i w) (hg : w.grownBy w' none) : RS b s i w' := by
  unfold RS at h ⊢
  rw [hg.block b ((Array.getElem?_eq_some_iff.1 h).1) (by simp)]; exact h

set_option maxHeartbeats 400000 in
theorem needless_any (s : ByteArray) (w : World) : Calls Tryz.prog 93 #[.string s] w fun e w' => e = .returned (.bool (decide (1 < s.data.toList.length) && decide (s.data.toList[0]? = some 48))) ∧ w' = w := by
  by_cases h1 : 1 < s.size
  · have h0 : 0 < s.size := by omega
    have hl : decide (1 < s.data.toList.length) = true := by simp; exact h1
    rw [hl, Bool.true_and, get_data s 0 h0]
    cases hz : ((s[0].toNat : Int) == 48) with
    | true =>
      have hc : s[0] = 48 := UInt8.toNat_inj.1 (by have := eq_of_beq hz; have e48 : (48 : UInt8).toNat = 48 := rfl; omega)
      have HZ : Hid (decide (some s[0] = some (48 : UInt8)) = true) := by show decide _ = true; rw [hc]; rfl
      rw [HZ.out]
      clear hc hl
      go_enter Tryz.func93, Tryz.ntmps93
      go_wp2
      go_ret
      exact ⟨rfl, rfl⟩
    | false =>
      have HZ : Hid (decide (some s[0] = some (48 : UInt8)) = false) := by
        show decide _ = false
        apply decide_eq_false
        intro e
        rw [Option.some.inj e] at hz
        exact absurd hz (by decide)
      rw [HZ.out]
      clear hl
      go_enter Tryz.func93, Tryz.ntmps93
      go_wp2
      go_ret
      exact ⟨rfl, rfl⟩
  · have hl : decide (1 < s.data.toList.length) = false := by simp; exact Nat.le_of_not_lt h1
    rw [hl, Bool.false_and]
    clear hl
    go_enter Tryz.func93, Tryz.ntmps93
    go_wp2
    go_ret
    exact ⟨rfl, rfl⟩

set_option maxHeartbeats 1600000 in
theorem skipP (b : Nat) (s : ByteArray) (i : Nat) (w : World) (hi : i ≤ s.size) (h : RS b s i w) (hs : s.size < 2 ^ 62) :
    Calls Tryz.prog 72 #[.pointer (some ⟨b, 0, none⟩), .int .i64 0] w fun e w' => e = .returned (.int .i64 (rdParts true s.data.toList i).1) ∧ RS b s (rdParts true s.data.toList i).2 w' ∧ w.grownBy w' (some b) := by
  have HI : Hid (RS b s i w ∧ i ≤ s.size) := ⟨h, hi⟩
  obtain ⟨E, Q, hEQ⟩ : ∃ E Q, rdParts true s.data.toList i = (E, Q) := ⟨_, _, rfl⟩
  rw [hEQ]
  have HEQ : Hid (rdParts true s.data.toList i = (E, Q)) := hEQ
  have hsl : s.data.toList.length = s.size := by simp
  have HSL : Hid (s.data.toList.length = s.size) := hsl
  clear h hi hEQ hsl
  go_enter Tryz.func72, Tryz.ntmps72
  go_wp2
  go_loopw [] (fun wr => ∃ j : Nat, j ≤ s.size ∧ RS b s j wr ∧ w.grownBy wr (some b) ∧ rdParts true s.data.toList j = (E, Q)) (fun wr => s.size - placeOf b wr)
  case atStart => exact ⟨i, HI.out.2, HI.out.1, gb_refl _ _, HEQ.out⟩
  case round =>
    obtain ⟨j, hj, hrs, hgb, hrd⟩ := hrel
    have CR : Hid (Calls Tryz.prog 91 #[.pointer (some ⟨b, 0, none⟩), .func (.func 92) #[] #[]] wr fun e w' => e = .returned (.string ⟨(subT s.data.toList j (runN isP s.data.toList j)).toArray⟩) ∧ RS b s (j + runN isP s.data.toList j) w' ∧ wr.grownBy w' (some b)) := run_parts b s j wr hj hrs hs
    have HPL : Hid (placeOf b wr = j) := hrs.place
    have d1 := hrs.c1
    have hle : j + runN isP s.data.toList j ≤ s.size := by have := runN_le isP s.data.toList j (by rw [HSL.out]; exact hj); rw [HSL.out] at this; exact this
    have hln := sub_len s.data.toList j (runN isP s.data.toList j) (by rw [HSL.out]; exact hle)
    rw [rdParts_eq] at hrd
    obtain ⟨k, hk⟩ : ∃ k, runN isP s.data.toList j = k := ⟨_, rfl⟩
    rw [hk] at CR hrd hle hln
    obtain ⟨T, hT⟩ : ∃ T, subT s.data.toList j k = T := ⟨_, rfl⟩
    rw [hT] at CR hrd hln
    obtain ⟨X, hX⟩ : ∃ X : ByteArray, X = ⟨T.toArray⟩ := ⟨_, rfl⟩
    rw [← hX] at CR
    have HXd : Hid (X.data.toList = T) := by show X.data.toList = T; rw [hX]
    have hXs : X.size = k := by rw [hX]; show T.toArray.size = k; simpa using hln
    have HGB : Hid (w.grownBy wr (some b)) := hgb
    have HRS : Hid (RS b s j wr) := hrs
    have HRD : Hid ((if k = 0 then (2, j) else if badZ true T = true then (2, j) else if s.data.toList[j + k]? = some 46 then rdParts true s.data.toList (j + k + 1) else (0, j + k)) = (E, Q)) := hrd
    clear hk hT hX hgb hrs hrd hln
    by_cases hk0 : k = 0
    · have e1 := emp_t2 (hXs.trans hk0)
      have HZ : Hid (E = 2 ∧ Q = j) := by
        have := HRD.out
        rw [if_pos hk0] at this
        exact ⟨(congrArg Prod.fst this).symm, (congrArg Prod.snd this).symm⟩
      have HK : Hid (k = 0) := hk0
      clear hk0 hXs hle
      go_wp2_with (go_at_call 91; refine CR.out.mono ?_)
      rintro e w1 ⟨rfl, hr1, hg1⟩
      have HF : Hid (RS b s Q w1 ∧ w.grownBy w1 (some b)) := by
        refine ⟨?_, gb_trans HGB.out hg1⟩
        rw [HZ.out.2]; rw [HK.out] at hr1; exact hr1
      clear hr1 hg1
      go_wp2
      go_ret
      exact ⟨ret_int HZ.out.1.symm, HF.out.1, HF.out.2⟩
    · have e1 := emp_f2 (fun h => hk0 (hXs.symm.trans h))
      have HNE : Hid (X.data.toList.isEmpty = false) := by show X.data.toList.isEmpty = false; rw [← Lib.toList_data]; exact e1
      have HK : Hid (¬ k = 0) := hk0
      have hXb : X.size < 2 ^ 62 := by omega
      have HLE : Hid (j + k ≤ s.size) := hle
      clear hk0 hXs hle
      go_wp2_with (go_at_call 91; refine CR.out.mono ?_)
      rintro e w1 ⟨rfl, hr1, hg1⟩
      have HR1 : Hid (RS b s (j + k) w1) := hr1
      have HG1 : Hid (w.grownBy w1 (some b)) := gb_trans HGB.out hg1
      clear hr1 hg1
      have CD : Hid (∀ w, Calls Tryz.prog 85 #[.string X] w fun e w' => e = .returned (.bool (numT X.data.toList)) ∧ w.grownBy w' none) := fun w => isDigits_any X w hXb
      obtain ⟨dX, hdX⟩ : ∃ d, numT X.data.toList = d := ⟨_, rfl⟩
      rw [hdX] at CD
      have HDX : Hid (T.all isD = dX) := by
        show T.all isD = dX
        rw [← hdX]; unfold numT; rw [HNE.out, HXd.out]; rfl
      obtain ⟨z, hz⟩ : ∃ z, (decide (1 < X.data.toList.length) && decide (X.data.toList[0]? = some 48)) = z := ⟨_, rfl⟩
      have CZ : Hid (∀ w, Calls Tryz.prog 93 #[.string X] w fun e w' => e = .returned (.bool z) ∧ w' = w) := fun w => by rw [← hz]; exact needless_any X w
      have HBZ : Hid (badZ true T = (dX && z)) := by
        show badZ true T = _
        rw [← hz, ← HDX.out, HXd.out]; rfl
      clear hdX hz
      go_wp2_with (go_at_call 85; refine (CD.out _).mono ?_)
      rintro e w2 ⟨rfl, hg2⟩
      replace HR1 : Hid (RS b s (j + k) w2) := HR1.out.grow hg2
      replace HG1 : Hid (w.grownBy w2 (some b)) := gb_trans HG1.out (gb_weak hg2 _)
      clear hg2
      cases dX with
      | false =>
        have HB : Hid (badZ true T = false) := by show badZ true T = false; rw [HBZ.out]; rfl
        cases hc : decide (s.data.toList[j + k]? = some 46) with
        | true =>
          have hc' := of_decide_eq_true hc
          have HT : Hid (rdParts true s.data.toList (j + k + 1) = (E, Q)) := by
            have := HRD.out
            rw [if_neg HK.out, if_neg (by rw [HB.out]; simp), if_pos hc'] at this
            exact this
          have CT : Hid (Calls Tryz.prog 94 #[.pointer (some ⟨b, 0, none⟩), .string ⟨#[46]⟩] w2 fun e w' => e = .returned (.bool true) ∧ RS b s (j + k + 1) w' ∧ w2.grownBy w' (some b)) := take_yes b s (j + k) 46 w2 hc' HR1.out hs
          have HLT : Hid (j + k < s.size) := by have := (List.getElem?_eq_some_iff.1 hc').1; rw [HSL.out] at this; exact this
          clear hc hc'
          go_wp2_with (first | (go_at_call 94; refine CT.out.mono ?_))
          rintro e w3 ⟨rfl, hr3, hg3⟩
          have HF : Hid (RS b s (j + k + 1) w3 ∧ w.grownBy w3 (some b)) := ⟨hr3, gb_trans HG1.out hg3⟩
          clear hr3 hg3
          go_wp2
          go_roundw
          case rel => exact ⟨j + k + 1, HLT.out, HF.out.1, HF.out.2, HT.out⟩
          case measure =>
            rw [HPL.out, HF.out.1.place]
            have := HLT.out
            omega
        | false =>
          have hc' := of_decide_eq_false hc
          have HT : Hid (E = 0 ∧ Q = j + k) := by
            have := HRD.out
            rw [if_neg HK.out, if_neg (by rw [HB.out]; simp), if_neg hc'] at this
            exact ⟨(congrArg Prod.fst this).symm, (congrArg Prod.snd this).symm⟩
          have CT : Hid (Calls Tryz.prog 94 #[.pointer (some ⟨b, 0, none⟩), .string ⟨#[46]⟩] w2 fun e w' => e = .returned (.bool false) ∧ RS b s (j + k) w' ∧ w2.grownBy w' (some b)) := take_no b s (j + k) 46 w2 HLE.out hc' HR1.out hs
          clear hc hc'
          go_wp2_with (first | (go_at_call 94; refine CT.out.mono ?_))
          rintro e w3 ⟨rfl, hr3, hg3⟩
          have HF : Hid (RS b s (j + k) w3 ∧ w.grownBy w3 (some b)) := ⟨hr3, gb_trans HG1.out hg3⟩
          clear hr3 hg3
          go_wp2
          go_ret
          exact ⟨ret_int HT.out.1.symm, by rw [HT.out.2]; exact HF.out.1, HF.out.2⟩
      | true =>
        cases z with
        | true =>
          have HZ : Hid (E = 2 ∧ Q = j) := by
            have := HRD.out
            rw [if_neg HK.out, if_pos (by rw [HBZ.out]; rfl)] at this
            exact ⟨(congrArg Prod.fst this).symm, (congrArg Prod.snd this).symm⟩
          have f1 := HR1.out.c1
          have f2 := HR1.out.f1
          go_wp2_with (first | (go_at_call 93; refine (CZ.out _).mono ?_; rintro e w' ⟨rfl, rfl⟩))
          go_ret
          exact ⟨ret_int HZ.out.1.symm, by rw [HZ.out.2]; exact HR1.out.set j, gb_set HG1.out _ _⟩
        | false =>
          have HB : Hid (badZ true T = false) := by show badZ true T = false; rw [HBZ.out]; rfl
          cases hc : decide (s.data.toList[j + k]? = some 46) with
          | true =>
            have hc' := of_decide_eq_true hc
            have HT : Hid (rdParts true s.data.toList (j + k + 1) = (E, Q)) := by
              have := HRD.out
              rw [if_neg HK.out, if_neg (by rw [HB.out]; simp), if_pos hc'] at this
              exact this
            have CT : Hid (Calls Tryz.prog 94 #[.pointer (some ⟨b, 0, none⟩), .string ⟨#[46]⟩] w2 fun e w' => e = .returned (.bool true) ∧ RS b s (j + k + 1) w' ∧ w2.grownBy w' (some b)) := take_yes b s (j + k) 46 w2 hc' HR1.out hs
            have HLT : Hid (j + k < s.size) := by have := (List.getElem?_eq_some_iff.1 hc').1; rw [HSL.out] at this; exact this
            clear hc hc'
            go_wp2_with (first | (go_at_call 93; refine (CZ.out _).mono ?_; rintro e w' ⟨rfl, rfl⟩) | (go_at_call 94; refine CT.out.mono ?_))
            rintro e w3 ⟨rfl, hr3, hg3⟩
            have HF : Hid (RS b s (j + k + 1) w3 ∧ w.grownBy w3 (some b)) := ⟨hr3, gb_trans HG1.out hg3⟩
            clear hr3 hg3
            go_wp2
            go_roundw
            case rel => exact ⟨j + k + 1, HLT.out, HF.out.1, HF.out.2, HT.out⟩
            case measure =>
              rw [HPL.out, HF.out.1.place]
              have := HLT.out
              omega
          | false =>
            have hc' := of_decide_eq_false hc
            have HT : Hid (E = 0 ∧ Q = j + k) := by
              have := HRD.out
              rw [if_neg HK.out, if_neg (by rw [HB.out]; simp), if_neg hc'] at this
              exact ⟨(congrArg Prod.fst this).symm, (congrArg Prod.snd this).symm⟩
            have CT : Hid (Calls Tryz.prog 94 #[.pointer (some ⟨b, 0, none⟩), .string ⟨#[46]⟩] w2 fun e w' => e = .returned (.bool false) ∧ RS b s (j + k) w' ∧ w2.grownBy w' (some b)) := take_no b s (j + k) 46 w2 HLE.out hc' HR1.out hs
            clear hc hc'
            go_wp2_with (first | (go_at_call 93; refine (CZ.out _).mono ?_; rintro e w' ⟨rfl, rfl⟩) | (go_at_call 94; refine CT.out.mono ?_))
            rintro e w3 ⟨rfl, hr3, hg3⟩
            have HF : Hid (RS b s (j + k) w3 ∧ w.grownBy w3 (some b)) := ⟨hr3, gb_trans HG1.out hg3⟩
            clear hr3 hg3
            go_wp2
            go_ret
            exact ⟨ret_int HT.out.1.symm, by rw [HT.out.2]; exact HF.out.1, HF.out.2⟩

set_option maxHeartbeats 1600000 in
theorem skipB (b : Nat) (s : ByteArray) (i : Nat) (w : World) (hi : i ≤ s.size) (h : RS b s i w) (hs : s.size < 2 ^ 62) :
    Calls Tryz.prog 72 #[.pointer (some ⟨b, 0, none⟩), .int .i64 1] w fun e w' => e = .returned (.int .i64 (rdParts false s.data.toList i).1) ∧ RS b s (rdParts false s.data.toList i).2 w' ∧ w.grownBy w' (some b) := by
  have HI : Hid (RS b s i w ∧ i ≤ s.size) := ⟨h, hi⟩
  obtain ⟨E, Q, hEQ⟩ : ∃ E Q, rdParts false s.data.toList i = (E, Q) := ⟨_, _, rfl⟩
  rw [hEQ]
  have HEQ : Hid (rdParts false s.data.toList i = (E, Q)) := hEQ
  have hsl : s.data.toList.length = s.size := by simp
  have HSL : Hid (s.data.toList.length = s.size) := hsl
  clear h hi hEQ hsl
  go_enter Tryz.func72, Tryz.ntmps72
  go_wp2
  go_loopw [] (fun wr => ∃ j : Nat, j ≤ s.size ∧ RS b s j wr ∧ w.grownBy wr (some b) ∧ rdParts false s.data.toList j = (E, Q)) (fun wr => s.size - placeOf b wr)
  case atStart => exact ⟨i, HI.out.2, HI.out.1, gb_refl _ _, HEQ.out⟩
  case round =>
    obtain ⟨j, hj, hrs, hgb, hrd⟩ := hrel
    have CR : Hid (Calls Tryz.prog 91 #[.pointer (some ⟨b, 0, none⟩), .func (.func 92) #[] #[]] wr fun e w' => e = .returned (.string ⟨(subT s.data.toList j (runN isP s.data.toList j)).toArray⟩) ∧ RS b s (j + runN isP s.data.toList j) w' ∧ wr.grownBy w' (some b)) := run_parts b s j wr hj hrs hs
    have HPL : Hid (placeOf b wr = j) := hrs.place
    have d1 := hrs.c1
    have hle : j + runN isP s.data.toList j ≤ s.size := by have := runN_le isP s.data.toList j (by rw [HSL.out]; exact hj); rw [HSL.out] at this; exact this
    have hln := sub_len s.data.toList j (runN isP s.data.toList j) (by rw [HSL.out]; exact hle)
    rw [rdParts_eq] at hrd
    obtain ⟨k, hk⟩ : ∃ k, runN isP s.data.toList j = k := ⟨_, rfl⟩
    rw [hk] at CR hrd hle hln
    obtain ⟨T, hT⟩ : ∃ T, subT s.data.toList j k = T := ⟨_, rfl⟩
    rw [hT] at CR hrd hln
    obtain ⟨X, hX⟩ : ∃ X : ByteArray, X = ⟨T.toArray⟩ := ⟨_, rfl⟩
    rw [← hX] at CR
    have HXd : Hid (X.data.toList = T) := by show X.data.toList = T; rw [hX]
    have hXs : X.size = k := by rw [hX]; show T.toArray.size = k; simpa using hln
    have HGB : Hid (w.grownBy wr (some b)) := hgb
    have HRS : Hid (RS b s j wr) := hrs
    have HRD : Hid ((if k = 0 then (2, j) else if badZ false T = true then (2, j) else if s.data.toList[j + k]? = some 46 then rdParts false s.data.toList (j + k + 1) else (0, j + k)) = (E, Q)) := hrd
    clear hk hT hX hgb hrs hrd hln
    by_cases hk0 : k = 0
    · have e1 := emp_t2 (hXs.trans hk0)
      have HZ : Hid (E = 2 ∧ Q = j) := by
        have := HRD.out
        rw [if_pos hk0] at this
        exact ⟨(congrArg Prod.fst this).symm, (congrArg Prod.snd this).symm⟩
      have HK : Hid (k = 0) := hk0
      clear hk0 hXs hle
      go_wp2_with (go_at_call 91; refine CR.out.mono ?_)
      rintro e w1 ⟨rfl, hr1, hg1⟩
      have HF : Hid (RS b s Q w1 ∧ w.grownBy w1 (some b)) := by
        refine ⟨?_, gb_trans HGB.out hg1⟩
        rw [HZ.out.2]; rw [HK.out] at hr1; exact hr1
      clear hr1 hg1
      go_wp2
      go_ret
      exact ⟨ret_int HZ.out.1.symm, HF.out.1, HF.out.2⟩
    · have e1 := emp_f2 (fun h => hk0 (hXs.symm.trans h))
      have HNE : Hid (X.data.toList.isEmpty = false) := by show X.data.toList.isEmpty = false; rw [← Lib.toList_data]; exact e1
      have HK : Hid (¬ k = 0) := hk0
      have hXb : X.size < 2 ^ 62 := by omega
      have HLE : Hid (j + k ≤ s.size) := hle
      clear hk0 hXs hle
      go_wp2_with (go_at_call 91; refine CR.out.mono ?_)
      rintro e w1 ⟨rfl, hr1, hg1⟩
      have HR1 : Hid (RS b s (j + k) w1) := hr1
      have HG1 : Hid (w.grownBy w1 (some b)) := gb_trans HGB.out hg1
      clear hr1 hg1
      have HB : Hid (badZ false T = false) := rfl
      cases hc : decide (s.data.toList[j + k]? = some 46) with
      | true =>
        have hc' := of_decide_eq_true hc
        have HT : Hid (rdParts false s.data.toList (j + k + 1) = (E, Q)) := by
          have := HRD.out
          rw [if_neg HK.out, if_neg (by rw [HB.out]; simp), if_pos hc'] at this
          exact this
        have CT : Hid (Calls Tryz.prog 94 #[.pointer (some ⟨b, 0, none⟩), .string ⟨#[46]⟩] w1 fun e w' => e = .returned (.bool true) ∧ RS b s (j + k + 1) w' ∧ w1.grownBy w' (some b)) := take_yes b s (j + k) 46 w1 hc' HR1.out hs
        have HLT : Hid (j + k < s.size) := by have := (List.getElem?_eq_some_iff.1 hc').1; rw [HSL.out] at this; exact this
        clear hc hc'
        go_wp2_with (first | (go_at_call 94; refine CT.out.mono ?_))
        rintro e w3 ⟨rfl, hr3, hg3⟩
        have HF : Hid (RS b s (j + k + 1) w3 ∧ w.grownBy w3 (some b)) := ⟨hr3, gb_trans HG1.out hg3⟩
        clear hr3 hg3
        go_wp2
        go_roundw
        case rel => exact ⟨j + k + 1, HLT.out, HF.out.1, HF.out.2, HT.out⟩
        case measure =>
          rw [HPL.out, HF.out.1.place]
          have := HLT.out
          omega
      | false =>
        have hc' := of_decide_eq_false hc
        have HT : Hid (E = 0 ∧ Q = j + k) := by
          have := HRD.out
          rw [if_neg HK.out, if_neg (by rw [HB.out]; simp), if_neg hc'] at this
          exact ⟨(congrArg Prod.fst this).symm, (congrArg Prod.snd this).symm⟩
        have CT : Hid (Calls Tryz.prog 94 #[.pointer (some ⟨b, 0, none⟩), .string ⟨#[46]⟩] w1 fun e w' => e = .returned (.bool false) ∧ RS b s (j + k) w' ∧ w1.grownBy w' (some b)) := take_no b s (j + k) 46 w1 HLE.out hc' HR1.out hs
        clear hc hc'
        go_wp2_with (first | (go_at_call 94; refine CT.out.mono ?_))
        rintro e w3 ⟨rfl, hr3, hg3⟩
        have HF : Hid (RS b s (j + k) w3 ∧ w.grownBy w3 (some b)) := ⟨hr3, gb_trans HG1.out hg3⟩
        clear hr3 hg3
        go_wp2
        go_ret
        exact ⟨ret_int HT.out.1.symm, by rw [HT.out.2]; exact HF.out.1, HF.out.2⟩
end Go.Proofs.YtkafaocbeankiaaGreatDoor
