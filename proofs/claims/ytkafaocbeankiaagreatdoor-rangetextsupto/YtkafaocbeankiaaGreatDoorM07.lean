import Derived.Test.YtkafaocbeankiaaGreatDoorM06
/-
  Two Pres, walked.
-/
namespace Go.Proofs.YtkafaocbeankiaaGreatDoor
open Go.RowKit
set_option linter.unusedVariables false

theorem emp_t {a : ByteArray} (h : a.size = 0) : a.toList.isEmpty = true := by
  rw [Lib.toList_data, List.isEmpty_iff]; exact List.length_eq_zero_iff.1 (by simpa using h)
theorem emp_f {a : ByteArray} (h : a.size ≠ 0) : a.toList.isEmpty = false := by
  rw [Lib.toList_data]
  cases hl : a.data.toList with
  | nil => exact absurd (show a.size = 0 from by show a.data.size = 0; rw [← Array.length_toList, hl]; rfl) h
  | cons c l => rfl

set_option maxHeartbeats 400000 in
theorem pre_e (a b : ByteArray) (w : World) (h : a.size = 0 ∨ b.size = 0) :
    Calls Tryz.prog 53 #[.string a, .string b] w fun e w' => e = .returned (.int .i64 (preC a.data.toList b.data.toList)) ∧ w.grownBy w' none := by
  have HE : Hid (preC a.data.toList b.data.toList = Lib.compareInt b.size a.size) := by
    show preC a.data.toList b.data.toList = Lib.compareInt b.size a.size
    rw [pre_empty]
    · simp
    · rcases h with h | h
      · left; exact List.length_eq_zero_iff.1 (by simpa using h)
      · right; exact List.length_eq_zero_iff.1 (by simpa using h)
  rw [HE.out]
  by_cases ha : a.size = 0
  · have c1 := emp_t ha
    have HA : Hid (a.size = 0) := ha
    clear h ha
    go_enter Tryz.func53, Tryz.ntmps53
    go_wp2_with (first | (go_at_call 52; refine (cmpInt_any _ _ _).mono ?_; rintro e w' ⟨rfl, rfl⟩))
    all_goals (go_ret; exact ⟨rfl, gb_refl _ _⟩)
  · have c1 := emp_f ha
    have c2 := emp_t (h.resolve_left ha)
    clear h ha
    go_enter Tryz.func53, Tryz.ntmps53
    go_wp2_with (first | (go_at_call 52; refine (cmpInt_any _ _ _).mono ?_; rintro e w' ⟨rfl, rfl⟩))
    all_goals (go_ret; exact ⟨rfl, gb_refl _ _⟩)

def sizeV : Value → Nat
  | .string s => s.size
  | _ => 0

theorem part_order (P Q : List UInt8) :
    (∃ X1 T2 X2, partV P = .iface 133 (.string X1) ∧ partV Q = .iface T2 (.string X2) ∧ ∀ w, Calls Tryz.prog 141 #[.string X1, .iface T2 (.string X2)] w fun e w' => e = .returned (.int .i64 (partC P Q)) ∧ ∃ n, w' = w.drewN n) ∨
    (∃ X1 T2 X2, partV P = .iface 135 (.string X1) ∧ partV Q = .iface T2 (.string X2) ∧ ∀ w, Calls Tryz.prog 144 #[.string X1, .iface T2 (.string X2)] w fun e w' => e = .returned (.int .i64 (partC P Q)) ∧ ∃ n, w' = w.drewN n) := by
  cases hp : numT P with
  | true =>
    left
    cases hq : numT Q with
    | true =>
      refine ⟨⟨(bareT P).toArray⟩, _, ⟨(bareT Q).toArray⟩, by unfold partV; rw [hp]; rfl, by unfold partV; rw [hq]; rfl, fun w => ?_⟩
      rw [partC_nn hp hq]
      have s1 : (⟨(bareT P).toArray⟩ : ByteArray).size = (bareT P).length := by show (bareT P).toArray.size = _; simp
      have s2 : (⟨(bareT Q).toArray⟩ : ByteArray).size = (bareT Q).length := by show (bareT Q).toArray.size = _; simp
      by_cases h : ((bareT P).length : Int) = (bareT Q).length
      · rw [if_pos h]; exact orderNN_eq _ _ w (by rw [s1, s2]; omega)
      · rw [if_neg h]
        have := orderNN_ne ⟨(bareT P).toArray⟩ ⟨(bareT Q).toArray⟩ w (by rw [s1, s2]; omega)
        rw [s1, s2] at this; exact this
    | false =>
      refine ⟨⟨(bareT P).toArray⟩, _, ⟨Q.toArray⟩, by unfold partV; rw [hp]; rfl, by unfold partV; rw [hq]; rfl, fun w => ?_⟩
      rw [partC_nw hp hq]; exact orderNW _ _ w
  | false =>
    right
    cases hq : numT Q with
    | true =>
      refine ⟨⟨P.toArray⟩, _, ⟨(bareT Q).toArray⟩, by unfold partV; rw [hp]; rfl, by unfold partV; rw [hq]; rfl, fun w => ?_⟩
      rw [partC_wn hp hq]; exact orderWN _ _ w
    | false =>
      refine ⟨⟨P.toArray⟩, _, ⟨Q.toArray⟩, by unfold partV; rw [hp]; rfl, by unfold partV; rw [hq]; rfl, fun w => ?_⟩
      rw [partC_ww hp hq]; exact orderWW _ _ w

set_option maxHeartbeats 4000000 in
set_option maxRecDepth 100000 in
theorem pre_f (a b : ByteArray) (w : World) (ha : a.size ≠ 0) (hb : b.size ≠ 0) (hs : a.size < 2 ^ 62) (hs' : b.size < 2 ^ 62) :
    Calls Tryz.prog 53 #[.string a, .string b] w fun e w' => e = .returned (.int .i64 (listC partC (splitD a.data.toList) (splitD b.data.toList))) ∧ w.grownBy w' none := by
  have c1 := emp_f ha
  have c2 := emp_f hb
  obtain ⟨R, hR⟩ : ∃ R, R = listC partC (splitD a.data.toList) (splitD b.data.toList) := ⟨_, rfl⟩
  rw [← hR]
  have HR : Hid (R = listC partC (splitD a.data.toList) (splitD b.data.toList)) := hR
  clear hR ha hb
  go_enter Tryz.func53, Tryz.ntmps53
  go_wp2_with (fail)
  go_loopw [0, 1] (fun va vb wr => ∃ x y : ByteArray, va = .string x ∧ vb = .string y ∧ x.size < 2 ^ 62 ∧ y.size < 2 ^ 62 ∧ R = listC partC (splitD x.data.toList) (splitD y.data.toList) ∧ w.grownBy wr none) (fun va _ _ => sizeV va)
  case atStart => exact ⟨a, b, rfl, rfl, hs, hs', HR.out, gb_refl _ _⟩
  case round =>
    obtain ⟨x, y, rfl, rfl, hx, hy, hr, hgb⟩ := hrel
    have HX : Hid (R = listC partC (splitD x.data.toList) (splitD y.data.toList)) := hr
    have HG : Hid (w.grownBy wr none) := hgb
    have HB : Hid (x.size < 2 ^ 62 ∧ y.size < 2 ^ 62) := ⟨hx, hy⟩
    obtain ⟨P1, hP1⟩ : ∃ P1, P1 = cut1 x.data.toList := ⟨_, rfl⟩
    obtain ⟨P2, hP2⟩ : ∃ P2, P2 = cut2 x.data.toList := ⟨_, rfl⟩
    obtain ⟨P3, hP3⟩ : ∃ P3, P3 = cut3 x.data.toList := ⟨_, rfl⟩
    obtain ⟨Q1, hQ1⟩ : ∃ Q1, Q1 = cut1 y.data.toList := ⟨_, rfl⟩
    obtain ⟨Q2, hQ2⟩ : ∃ Q2, Q2 = cut2 y.data.toList := ⟨_, rfl⟩
    obtain ⟨Q3, hQ3⟩ : ∃ Q3, Q3 = cut3 y.data.toList := ⟨_, rfl⟩
    have HP : Hid (P1 = cut1 x.data.toList ∧ P2 = cut2 x.data.toList ∧ P3 = cut3 x.data.toList) := ⟨hP1, hP2, hP3⟩
    have HQ : Hid (Q1 = cut1 y.data.toList ∧ Q2 = cut2 y.data.toList ∧ Q3 = cut3 y.data.toList) := ⟨hQ1, hQ2, hQ3⟩
    have C1 := fun w => cut_any x w hx
    rw [← hP1, ← hP2, ← hP3] at C1
    have C2 := fun w => cut_any y w hy
    rw [← hQ1, ← hQ2, ← hQ3] at C2
    have p1 : (⟨P1.toArray⟩ : ByteArray).size < 2 ^ 62 := by
      have := cut1_len x.data.toList
      rw [← hP1] at this; show P1.toArray.size < _; simp at this ⊢; omega
    have q1 : (⟨Q1.toArray⟩ : ByteArray).size < 2 ^ 62 := by
      have := cut1_len y.data.toList
      rw [← hQ1] at this; show Q1.toArray.size < _; simp at this ⊢; omega
    have D1 : Hid (∀ w, Calls Tryz.prog 66 #[.string ⟨P1.toArray⟩] w fun e w' => e = .returned (partV P1) ∧ w.grownBy w' none) := fun w => partOf_any ⟨P1.toArray⟩ w p1
    have D2 : Hid (∀ w, Calls Tryz.prog 66 #[.string ⟨Q1.toArray⟩] w fun e w' => e = .returned (partV Q1) ∧ w.grownBy w' none) := fun w => partOf_any ⟨Q1.toArray⟩ w q1
    have HC1 : Hid (∀ w, Calls Tryz.prog 65 #[.string x, .string ⟨#[46]⟩] w fun e w' => e = .returned (.tuple #[.string ⟨P1.toArray⟩, .string ⟨P2.toArray⟩, .bool P3]) ∧ ∃ n, w' = w.drewN n) := C1
    have HC2 : Hid (∀ w, Calls Tryz.prog 65 #[.string y, .string ⟨#[46]⟩] w fun e w' => e = .returned (.tuple #[.string ⟨Q1.toArray⟩, .string ⟨Q2.toArray⟩, .bool Q3]) ∧ ∃ n, w' = w.drewN n) := C2
    clear hP1 hP2 hP3 hQ1 hQ2 hQ3 C1 C2 p1 q1 hr hgb hx hy
    obtain ⟨O, hO⟩ : ∃ O, O = partC P1 Q1 := ⟨_, rfl⟩
    have HS : Hid (R = if O = 0 then (if P3 = true then (if Q3 = true then listC partC (splitD P2) (splitD Q2) else 1) else (if Q3 = true then -1 else 0)) else O) := by
      show R = _
      have h1 := HP.out
      have h2 := HQ.out
      rw [HX.out, list_step, ← h1.1, ← h1.2.1, ← h1.2.2, ← h2.1, ← h2.2.1, ← h2.2.2, ← hO]
    have HL : Hid ((P3 = true → P2.length < x.size) ∧ P2.length < 2 ^ 62 ∧ Q2.length < 2 ^ 62) := by
      have h1 := HP.out
      have h2 := HQ.out
      have h3 := HB.out
      have z1 : x.data.toList.length = x.size := by simp
      have z2 : y.data.toList.length = y.size := by simp
      have l1 := cut2_len x.data.toList
      have l2 := cut2_len y.data.toList
      rw [← h1.2.1] at l1
      rw [← h2.2.1] at l2
      refine ⟨fun h => ?_, by omega, by omega⟩
      have := (cut_yes (h1.2.2 ▸ h : cut3 x.data.toList = true)).2
      rw [← h1.2.1] at this
      omega
    rcases part_order P1 Q1 with ⟨X1, T2, X2, hv1, hv2, ho⟩ | ⟨X1, T2, X2, hv1, hv2, ho⟩
    · rw [← hO] at ho
      rw [hv1] at D1
      rw [hv2] at D2
      have H0 : Hid (∀ w, Calls Tryz.prog 141 #[.string X1, .iface T2 (.string X2)] w fun e w' => e = .returned (.int .i64 O) ∧ ∃ n, w' = w.drewN n) := ho
      clear ho hv1 hv2 hO
      have na : ∀ w, (nilAhead 291 133 (.string X1) "pantry/ver.order").run Tryz.prog w = .ok (some false) w := fun w => by kernel_rfl
      have hm : ∀ w, (method 291 133 (.string X1) "pantry/ver.order").run Tryz.prog w = .ok (141, .string X1) w := fun w => by kernel_rfl
      go_wp2_with (go_at_call 65; refine (HC1.out _).mono ?_)
      rintro e w1 ⟨rfl, n1, rfl⟩
      go_wp2_with (go_at_call 65; refine (HC2.out _).mono ?_)
      rintro e w1 ⟨rfl, n2, rfl⟩
      go_wp2
      go_region_with (first | (go_at_call_of 66 (Value.string ⟨P1.toArray⟩); refine (D1.out _).mono ?_; rintro e w3 ⟨rfl, hg3⟩) | (go_at_call_of 66 (Value.string ⟨Q1.toArray⟩); refine (D2.out _).mono ?_; rintro e w4 ⟨rfl, hg4⟩) | (go_at_call 141; refine (H0.out _).mono ?_; rintro e w5 ⟨rfl, n5, rfl⟩))
      all_goals
        have GB : Hid (w.grownBy w4 none) := gb_trans (gb_trans (gb_drew HG.out _) hg3) hg4
        clear hg3 hg4 na hm
        cases hz : (O == 0) with
        | false =>
          have HZ : Hid (R = O) := by
            show R = O
            rw [HS.out, if_neg (by simpa using hz)]
          go_wp2
          go_ret
          exact ⟨ret_int HZ.out.symm, gb_drew GB.out _⟩
        | true =>
          have HZ : Hid (O = 0) := by
            show O = 0
            simpa using hz
          cases P3 with
          | true =>
            cases Q3 with
            | true =>
              go_wp2
              go_roundw
              case rel =>
                refine ⟨⟨P2.toArray⟩, ⟨Q2.toArray⟩, rfl, rfl, ?_, ?_, ?_, gb_drew GB.out _⟩
                · show P2.toArray.size < _
                  have := HL.out.2.1; simpa using this
                · show Q2.toArray.size < _
                  have := HL.out.2.2; simpa using this
                · rw [HS.out, if_pos HZ.out]; rfl
              case measure =>
                have := HL.out.1 rfl
                show P2.toArray.size < x.size
                simpa using this
            | false =>
              have HE : Hid (R = 1) := by show R = 1; rw [HS.out, if_pos HZ.out]; rfl
              go_wp2
              go_ret
              exact ⟨ret_int HE.out.symm, gb_drew GB.out _⟩
          | false =>
            cases Q3 with
            | true =>
              have HE : Hid (R = -1) := by show R = -1; rw [HS.out, if_pos HZ.out]; rfl
              go_wp2
              go_ret
              exact ⟨ret_int HE.out.symm, gb_drew GB.out _⟩
            | false =>
              have HE : Hid (R = 0) := by show R = 0; rw [HS.out, if_pos HZ.out]; rfl
              go_wp2
              go_ret
              exact ⟨ret_int HE.out.symm, gb_drew GB.out _⟩
    · rw [← hO] at ho
      rw [hv1] at D1
      rw [hv2] at D2
      have H0 : Hid (∀ w, Calls Tryz.prog 144 #[.string X1, .iface T2 (.string X2)] w fun e w' => e = .returned (.int .i64 O) ∧ ∃ n, w' = w.drewN n) := ho
      clear ho hv1 hv2 hO
      have na : ∀ w, (nilAhead 291 135 (.string X1) "pantry/ver.order").run Tryz.prog w = .ok (some false) w := fun w => by kernel_rfl
      have hm : ∀ w, (method 291 135 (.string X1) "pantry/ver.order").run Tryz.prog w = .ok (144, .string X1) w := fun w => by kernel_rfl
      go_wp2_with (go_at_call 65; refine (HC1.out _).mono ?_)
      rintro e w1 ⟨rfl, n1, rfl⟩
      go_wp2_with (go_at_call 65; refine (HC2.out _).mono ?_)
      rintro e w1 ⟨rfl, n2, rfl⟩
      go_wp2
      go_region_with (first | (go_at_call_of 66 (Value.string ⟨P1.toArray⟩); refine (D1.out _).mono ?_; rintro e w3 ⟨rfl, hg3⟩) | (go_at_call_of 66 (Value.string ⟨Q1.toArray⟩); refine (D2.out _).mono ?_; rintro e w4 ⟨rfl, hg4⟩) | (go_at_call 144; refine (H0.out _).mono ?_; rintro e w5 ⟨rfl, n5, rfl⟩))
      all_goals
        have GB : Hid (w.grownBy w4 none) := gb_trans (gb_trans (gb_drew HG.out _) hg3) hg4
        clear hg3 hg4 na hm
        cases hz : (O == 0) with
        | false =>
          have HZ : Hid (R = O) := by
            show R = O
            rw [HS.out, if_neg (by simpa using hz)]
          go_wp2
          go_ret
          exact ⟨ret_int HZ.out.symm, gb_drew GB.out _⟩
        | true =>
          have HZ : Hid (O = 0) := by
            show O = 0
            simpa using hz
          cases P3 with
          | true =>
            cases Q3 with
            | true =>
              go_wp2
              go_roundw
              case rel =>
                refine ⟨⟨P2.toArray⟩, ⟨Q2.toArray⟩, rfl, rfl, ?_, ?_, ?_, gb_drew GB.out _⟩
                · show P2.toArray.size < _
                  have := HL.out.2.1; simpa using this
                · show Q2.toArray.size < _
                  have := HL.out.2.2; simpa using this
                · rw [HS.out, if_pos HZ.out]; rfl
              case measure =>
                have := HL.out.1 rfl
                show P2.toArray.size < x.size
                simpa using this
            | false =>
              have HE : Hid (R = 1) := by show R = 1; rw [HS.out, if_pos HZ.out]; rfl
              go_wp2
              go_ret
              exact ⟨ret_int HE.out.symm, gb_drew GB.out _⟩
          | false =>
            cases Q3 with
            | true =>
              have HE : Hid (R = -1) := by show R = -1; rw [HS.out, if_pos HZ.out]; rfl
              go_wp2
              go_ret
              exact ⟨ret_int HE.out.symm, gb_drew GB.out _⟩
            | false =>
              have HE : Hid (R = 0) := by show R = 0; rw [HS.out, if_pos HZ.out]; rfl
              go_wp2
              go_ret
              exact ⟨ret_int HE.out.symm, gb_drew GB.out _⟩

theorem pre_any (a b : ByteArray) (w : World) (hs : a.size < 2 ^ 62) (hs' : b.size < 2 ^ 62) :
    Calls Tryz.prog 53 #[.string a, .string b] w fun e w' => e = .returned (.int .i64 (preC a.data.toList b.data.toList)) ∧ w.grownBy w' none := by
  by_cases h : a.size = 0 ∨ b.size = 0
  · exact pre_e a b w h
  · have ha : a.size ≠ 0 := fun e => h (Or.inl e)
    have hb : b.size ≠ 0 := fun e => h (Or.inr e)
    rw [pre_full a.data.toList b.data.toList (fun e => ha (by show a.data.size = 0; rw [← Array.length_toList, e]; rfl)) (fun e => hb (by show b.data.size = 0; rw [← Array.length_toList, e]; rfl))]
    exact pre_f a b w ha hb hs hs'
end Go.Proofs.YtkafaocbeankiaaGreatDoor
