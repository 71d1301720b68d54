import Derived.Test.YtjbmgnnkbpgngaaDoorM16
/-
  parts of the law, walked.
-/
namespace Go.Proofs.YtjbmgnnkbpgngaaDoor
open Go.RowKit
set_option linter.unusedVariables false

def partS (A B : List Sp) (s : Sp) : Bool := (holdsL A (cFrom s) != holdsL B (cFrom s)) || (!s.o && (holdsL A (cTo s) != holdsL B (cTo s)))
def partsL (A B C : List Sp) : Bool := C.any (partS A B)

theorem cHoldsQ (sl : Value) (L : List Sp) (v1 v2 v3 : Int) (v4 v5 : ByteArray) (w : World) (h : SpS w sl L) (hL : L.length ≤ 4194304) (hsz : ∀ s ∈ L, smallS s) (hv : v4.size ≤ 1048576) :
    Calls Tryd.prog 11 #[sl, .agg #[.int .i64 v1, .int .i64 v2, .int .i64 v3, .string v4, .string v5]] w fun e w' => e = .returned (.bool (holdsL L ⟨v1, v2, v3, v4.data.toList⟩)) ∧ w.grownBy w' none := by
  rcases h with ⟨rfl, rfl⟩ | ⟨a, cap, rfl, h2, h3⟩
  · exact pholds_nil v1 v2 v3 v4 v5 w
  · exact pholds_at a cap L v1 v2 v3 v4 v5 w (by omega) h2 h3 hsz hv

set_option maxRecDepth 100000 in
set_option maxHeartbeats 6400000 in
theorem parts_at (sa sb : Value) (a : Addr) (cap : Nat) (A B L : List Sp) (w : World) (hA : SpS w sa A) (hB : SpS w sb B) (hAl : A.length ≤ 4194304) (hAs : ∀ s ∈ A, smallS s) (hBl : B.length ≤ 4194304) (hBs : ∀ s ∈ B, smallS s) (hL : L.length < 2 ^ 62) (hcap : L.length ≤ cap) (h : SpAt w a L) (hsz : ∀ s ∈ L, smallS s) :
    Calls Tryd.prog 15 #[sa, sb, .slice (some a) L.length cap] w fun e w' => e = .returned (.bool (partsL A B L)) ∧ w.grownBy w' none := by
  have HC : Hid (SpAt w a L) := h
  have HS : Hid (∀ s ∈ L, smallS s) := hsz
  have HA : Hid (SpS w sa A) := hA
  have HB : Hid (SpS w sb B) := hB
  have CA : Hid (∀ v1 v2 v3 v4 v5 w, SpS w sa A → ByteArray.size v4 ≤ 1048576 → Calls Tryd.prog 11 #[sa, .agg #[.int .i64 v1, .int .i64 v2, .int .i64 v3, .string v4, .string v5]] w fun e w' => e = .returned (.bool (holdsL A ⟨v1, v2, v3, v4.data.toList⟩)) ∧ w.grownBy w' none) := fun v1 v2 v3 v4 v5 w h hv => cHoldsQ sa A v1 v2 v3 v4 v5 w h hAl hAs hv
  have CB : Hid (∀ v1 v2 v3 v4 v5 w, SpS w sb B → ByteArray.size v4 ≤ 1048576 → Calls Tryd.prog 11 #[sb, .agg #[.int .i64 v1, .int .i64 v2, .int .i64 v3, .string v4, .string v5]] w fun e w' => e = .returned (.bool (holdsL B ⟨v1, v2, v3, v4.data.toList⟩)) ∧ w.grownBy w' none) := fun v1 v2 v3 v4 v5 w h hv => cHoldsQ sb B v1 v2 v3 v4 v5 w h hBl hBs hv
  clear h hsz hA hB hAl hAs hBl hBs
  obtain ⟨R, hR⟩ : ∃ R, partsL A B L = R := ⟨_, rfl⟩
  have HR : Hid (partsL A B L = R) := hR
  rw [hR]
  clear hR
  go_enter Tryd.func15, Tryd.ntmps15
  go_wp2
  go_loopw [7] (fun vi wr => ∃ i : Nat, vi = .int .i64 i ∧ i ≤ L.length ∧ (∀ j (hj : j < L.length), j < i → partS A B L[j] = false) ∧ w.grownBy wr none) (fun vi _ => L.length - (intOf vi).toNat)
  case atStart => exact ⟨0, rfl, Nat.zero_le _, fun j hj h => absurd h (by omega), gb_refl _ _⟩
  case round =>
    obtain ⟨i, rfl, hi, hp, hg⟩ := hrel
    have HP : Hid (∀ j (hj : j < L.length), j < i → partS A B L[j] = false) := hp
    have HG : Hid (w.grownBy wr none) := hg
    clear hp hg
    by_cases hlt : i < L.length
    · obtain ⟨s, hs⟩ : ∃ s, L[i] = s := ⟨_, rfl⟩
      have HE : Hid (EltAt wr (a.add (i * 11)) s) := by show EltAt wr _ s; rw [← hs]; exact (HC.out i hlt).grow HG.out
      have hm : smallS s := by rw [← hs]; exact HS.out _ (List.getElem_mem hlt)
      have HSS : Hid (L[i] = s) := hs
      obtain ⟨x, hx⟩ : ∃ x, holdsL A (cFrom s) = x := ⟨_, rfl⟩
      obtain ⟨y, hy⟩ : ∃ x, holdsL B (cFrom s) = x := ⟨_, rfl⟩
      obtain ⟨z, hz⟩ : ∃ x, holdsL A (cTo s) = x := ⟨_, rfl⟩
      obtain ⟨u, hu⟩ : ∃ x, holdsL B (cTo s) = x := ⟨_, rfl⟩
      obtain ⟨ob, hob⟩ : ∃ b, s.o = b := ⟨_, rfl⟩
      have C1 : Hid (∀ w', w.grownBy w' none → Calls Tryd.prog 11 #[sa, .agg #[.int .i64 s.f1, .int .i64 s.f2, .int .i64 s.f3, .string s.f4, .string s.f5]] w' fun e w'' => e = .returned (.bool x) ∧ w'.grownBy w'' none) := fun w' hg => by rw [← hx]; exact CA.out _ _ _ _ _ _ (HA.out.grow hg) hm.1
      have C2 : Hid (∀ w', w.grownBy w' none → Calls Tryd.prog 11 #[sb, .agg #[.int .i64 s.f1, .int .i64 s.f2, .int .i64 s.f3, .string s.f4, .string s.f5]] w' fun e w'' => e = .returned (.bool y) ∧ w'.grownBy w'' none) := fun w' hg => by rw [← hy]; exact CB.out _ _ _ _ _ _ (HB.out.grow hg) hm.1
      have C3 : Hid (∀ w', w.grownBy w' none → Calls Tryd.prog 11 #[sa, .agg #[.int .i64 s.t1, .int .i64 s.t2, .int .i64 s.t3, .string s.t4, .string s.t5]] w' fun e w'' => e = .returned (.bool z) ∧ w'.grownBy w'' none) := fun w' hg => by rw [← hz]; exact CA.out _ _ _ _ _ _ (HA.out.grow hg) hm.2.2.1
      have C4 : Hid (∀ w', w.grownBy w' none → Calls Tryd.prog 11 #[sb, .agg #[.int .i64 s.t1, .int .i64 s.t2, .int .i64 s.t3, .string s.t4, .string s.t5]] w' fun e w'' => e = .returned (.bool u) ∧ w'.grownBy w'' none) := fun w' hg => by rw [← hu]; exact CB.out _ _ _ _ _ _ (HB.out.grow hg) hm.2.2.1
      have HXY : Hid (partS A B s = ((x != y) || (!ob && (z != u)))) := by show partS A B s = _; unfold partS; rw [hx, hy, hz, hu, hob]
      have HO : Hid (s.o = ob) := hob
      clear hx hy hz hu hob hm hs
      obtain ⟨e0, e1, e2, e3, e4, e5, e6, e7, e8, e9, e10⟩ := HE.out
      go_wp2_with (first | (go_at_call 11; refine (C1.out _ HG.out).mono ?_))
      rintro e w1 ⟨rfl, hg⟩
      replace HG : Hid (w.grownBy w1 none) := gb_trans HG.out hg
      replace HE : Hid (EltAt w1 (a.add (i * 11)) s) := HE.out.grow hg
      clear hg e0 e1 e2 e3 e4 e5 e6 e7 e8 e9 e10
      obtain ⟨e0, e1, e2, e3, e4, e5, e6, e7, e8, e9, e10⟩ := HE.out
      go_wp2_with (first | (go_at_call 11; refine (C2.out _ HG.out).mono ?_))
      rintro e w2 ⟨rfl, hg⟩
      replace HG : Hid (w.grownBy w2 none) := gb_trans HG.out hg
      replace HE : Hid (EltAt w2 (a.add (i * 11)) s) := HE.out.grow hg
      clear hg e0 e1 e2 e3 e4 e5 e6 e7 e8 e9 e10
      obtain ⟨e0, e1, e2, e3, e4, e5, e6, e7, e8, e9, e10⟩ := HE.out
      go_wp2_with (first | (go_at_call 11; refine (C3.out _ HG.out).mono ?_))
      rintro e w3 ⟨rfl, hg⟩
      replace HG : Hid (w.grownBy w3 none) := gb_trans HG.out hg
      replace HE : Hid (EltAt w3 (a.add (i * 11)) s) := HE.out.grow hg
      clear hg e0 e1 e2 e3 e4 e5 e6 e7 e8 e9 e10
      obtain ⟨e0, e1, e2, e3, e4, e5, e6, e7, e8, e9, e10⟩ := HE.out
      go_wp2_with (first | (go_at_call 11; refine (C4.out _ HG.out).mono ?_))
      rintro e w4 ⟨rfl, hg⟩
      replace HG : Hid (w.grownBy w4 none) := gb_trans HG.out hg
      replace HE : Hid (EltAt w4 (a.add (i * 11)) s) := HE.out.grow hg
      clear hg e0 e1 e2 e3 e4 e5 e6 e7 e8 e9 e10
      obtain ⟨e0, e1, e2, e3, e4, e5, e6, e7, e8, e9, e10⟩ := HE.out
      rw [HO.out] at e10
      clear HO C1 C2 C3 C4 CA CB HA HB HC
      cases x with
      | false =>
        cases y with
        | false =>
          cases z with
          | false =>
            cases u with
            | false =>
              cases ob with
              | false =>
                have HPF : Hid (partS A B s = false) := by show partS A B s = false; rw [HXY.out]; rfl
                clear HXY
                go_wp2
                go_roundw
                case rel =>
                  refine ⟨i + 1, by go_num, by omega, fun j hj hji => ?_, HG.out⟩
                  by_cases hji' : j < i
                  · exact HP.out j hj hji'
                  · have e : j = i := by omega
                    subst e
                    rw [HSS.out]; exact HPF.out
                case measure => simp [intOf]; omega
              | true =>
                have HPF : Hid (partS A B s = false) := by show partS A B s = false; rw [HXY.out]; rfl
                clear HXY
                go_wp2
                go_roundw
                case rel =>
                  refine ⟨i + 1, by go_num, by omega, fun j hj hji => ?_, HG.out⟩
                  by_cases hji' : j < i
                  · exact HP.out j hj hji'
                  · have e : j = i := by omega
                    subst e
                    rw [HSS.out]; exact HPF.out
                case measure => simp [intOf]; omega
            | true =>
              cases ob with
              | false =>
                have HRT : Hid (R = true) := by
                  show R = true
                  rw [← HR.out]; unfold partsL
                  rw [List.any_eq_true]
                  exact ⟨L[i], List.getElem_mem hlt, by rw [HSS.out, HXY.out]; rfl⟩
                clear HXY
                go_wp2
                go_ret
                exact ⟨ret_bool HRT.out.symm, HG.out⟩
              | true =>
                have HPF : Hid (partS A B s = false) := by show partS A B s = false; rw [HXY.out]; rfl
                clear HXY
                go_wp2
                go_roundw
                case rel =>
                  refine ⟨i + 1, by go_num, by omega, fun j hj hji => ?_, HG.out⟩
                  by_cases hji' : j < i
                  · exact HP.out j hj hji'
                  · have e : j = i := by omega
                    subst e
                    rw [HSS.out]; exact HPF.out
                case measure => simp [intOf]; omega
          | true =>
            cases u with
            | false =>
              cases ob with
              | false =>
                have HRT : Hid (R = true) := by
                  show R = true
                  rw [← HR.out]; unfold partsL
                  rw [List.any_eq_true]
                  exact ⟨L[i], List.getElem_mem hlt, by rw [HSS.out, HXY.out]; rfl⟩
                clear HXY
                go_wp2
                go_ret
                exact ⟨ret_bool HRT.out.symm, HG.out⟩
              | true =>
                have HPF : Hid (partS A B s = false) := by show partS A B s = false; rw [HXY.out]; rfl
                clear HXY
                go_wp2
                go_roundw
                case rel =>
                  refine ⟨i + 1, by go_num, by omega, fun j hj hji => ?_, HG.out⟩
                  by_cases hji' : j < i
                  · exact HP.out j hj hji'
                  · have e : j = i := by omega
                    subst e
                    rw [HSS.out]; exact HPF.out
                case measure => simp [intOf]; omega
            | true =>
              cases ob with
              | false =>
                have HPF : Hid (partS A B s = false) := by show partS A B s = false; rw [HXY.out]; rfl
                clear HXY
                go_wp2
                go_roundw
                case rel =>
                  refine ⟨i + 1, by go_num, by omega, fun j hj hji => ?_, HG.out⟩
                  by_cases hji' : j < i
                  · exact HP.out j hj hji'
                  · have e : j = i := by omega
                    subst e
                    rw [HSS.out]; exact HPF.out
                case measure => simp [intOf]; omega
              | true =>
                have HPF : Hid (partS A B s = false) := by show partS A B s = false; rw [HXY.out]; rfl
                clear HXY
                go_wp2
                go_roundw
                case rel =>
                  refine ⟨i + 1, by go_num, by omega, fun j hj hji => ?_, HG.out⟩
                  by_cases hji' : j < i
                  · exact HP.out j hj hji'
                  · have e : j = i := by omega
                    subst e
                    rw [HSS.out]; exact HPF.out
                case measure => simp [intOf]; omega
        | true =>
          cases z with
          | false =>
            cases u with
            | false =>
              cases ob with
              | false =>
                have HRT : Hid (R = true) := by
                  show R = true
                  rw [← HR.out]; unfold partsL
                  rw [List.any_eq_true]
                  exact ⟨L[i], List.getElem_mem hlt, by rw [HSS.out, HXY.out]; rfl⟩
                clear HXY
                go_wp2
                go_ret
                exact ⟨ret_bool HRT.out.symm, HG.out⟩
              | true =>
                have HRT : Hid (R = true) := by
                  show R = true
                  rw [← HR.out]; unfold partsL
                  rw [List.any_eq_true]
                  exact ⟨L[i], List.getElem_mem hlt, by rw [HSS.out, HXY.out]; rfl⟩
                clear HXY
                go_wp2
                go_ret
                exact ⟨ret_bool HRT.out.symm, HG.out⟩
            | true =>
              cases ob with
              | false =>
                have HRT : Hid (R = true) := by
                  show R = true
                  rw [← HR.out]; unfold partsL
                  rw [List.any_eq_true]
                  exact ⟨L[i], List.getElem_mem hlt, by rw [HSS.out, HXY.out]; rfl⟩
                clear HXY
                go_wp2
                go_ret
                exact ⟨ret_bool HRT.out.symm, HG.out⟩
              | true =>
                have HRT : Hid (R = true) := by
                  show R = true
                  rw [← HR.out]; unfold partsL
                  rw [List.any_eq_true]
                  exact ⟨L[i], List.getElem_mem hlt, by rw [HSS.out, HXY.out]; rfl⟩
                clear HXY
                go_wp2
                go_ret
                exact ⟨ret_bool HRT.out.symm, HG.out⟩
          | true =>
            cases u with
            | false =>
              cases ob with
              | false =>
                have HRT : Hid (R = true) := by
                  show R = true
                  rw [← HR.out]; unfold partsL
                  rw [List.any_eq_true]
                  exact ⟨L[i], List.getElem_mem hlt, by rw [HSS.out, HXY.out]; rfl⟩
                clear HXY
                go_wp2
                go_ret
                exact ⟨ret_bool HRT.out.symm, HG.out⟩
              | true =>
                have HRT : Hid (R = true) := by
                  show R = true
                  rw [← HR.out]; unfold partsL
                  rw [List.any_eq_true]
                  exact ⟨L[i], List.getElem_mem hlt, by rw [HSS.out, HXY.out]; rfl⟩
                clear HXY
                go_wp2
                go_ret
                exact ⟨ret_bool HRT.out.symm, HG.out⟩
            | true =>
              cases ob with
              | false =>
                have HRT : Hid (R = true) := by
                  show R = true
                  rw [← HR.out]; unfold partsL
                  rw [List.any_eq_true]
                  exact ⟨L[i], List.getElem_mem hlt, by rw [HSS.out, HXY.out]; rfl⟩
                clear HXY
                go_wp2
                go_ret
                exact ⟨ret_bool HRT.out.symm, HG.out⟩
              | true =>
                have HRT : Hid (R = true) := by
                  show R = true
                  rw [← HR.out]; unfold partsL
                  rw [List.any_eq_true]
                  exact ⟨L[i], List.getElem_mem hlt, by rw [HSS.out, HXY.out]; rfl⟩
                clear HXY
                go_wp2
                go_ret
                exact ⟨ret_bool HRT.out.symm, HG.out⟩
      | true =>
        cases y with
        | false =>
          cases z with
          | false =>
            cases u with
            | false =>
              cases ob with
              | false =>
                have HRT : Hid (R = true) := by
                  show R = true
                  rw [← HR.out]; unfold partsL
                  rw [List.any_eq_true]
                  exact ⟨L[i], List.getElem_mem hlt, by rw [HSS.out, HXY.out]; rfl⟩
                clear HXY
                go_wp2
                go_ret
                exact ⟨ret_bool HRT.out.symm, HG.out⟩
              | true =>
                have HRT : Hid (R = true) := by
                  show R = true
                  rw [← HR.out]; unfold partsL
                  rw [List.any_eq_true]
                  exact ⟨L[i], List.getElem_mem hlt, by rw [HSS.out, HXY.out]; rfl⟩
                clear HXY
                go_wp2
                go_ret
                exact ⟨ret_bool HRT.out.symm, HG.out⟩
            | true =>
              cases ob with
              | false =>
                have HRT : Hid (R = true) := by
                  show R = true
                  rw [← HR.out]; unfold partsL
                  rw [List.any_eq_true]
                  exact ⟨L[i], List.getElem_mem hlt, by rw [HSS.out, HXY.out]; rfl⟩
                clear HXY
                go_wp2
                go_ret
                exact ⟨ret_bool HRT.out.symm, HG.out⟩
              | true =>
                have HRT : Hid (R = true) := by
                  show R = true
                  rw [← HR.out]; unfold partsL
                  rw [List.any_eq_true]
                  exact ⟨L[i], List.getElem_mem hlt, by rw [HSS.out, HXY.out]; rfl⟩
                clear HXY
                go_wp2
                go_ret
                exact ⟨ret_bool HRT.out.symm, HG.out⟩
          | true =>
            cases u with
            | false =>
              cases ob with
              | false =>
                have HRT : Hid (R = true) := by
                  show R = true
                  rw [← HR.out]; unfold partsL
                  rw [List.any_eq_true]
                  exact ⟨L[i], List.getElem_mem hlt, by rw [HSS.out, HXY.out]; rfl⟩
                clear HXY
                go_wp2
                go_ret
                exact ⟨ret_bool HRT.out.symm, HG.out⟩
              | true =>
                have HRT : Hid (R = true) := by
                  show R = true
                  rw [← HR.out]; unfold partsL
                  rw [List.any_eq_true]
                  exact ⟨L[i], List.getElem_mem hlt, by rw [HSS.out, HXY.out]; rfl⟩
                clear HXY
                go_wp2
                go_ret
                exact ⟨ret_bool HRT.out.symm, HG.out⟩
            | true =>
              cases ob with
              | false =>
                have HRT : Hid (R = true) := by
                  show R = true
                  rw [← HR.out]; unfold partsL
                  rw [List.any_eq_true]
                  exact ⟨L[i], List.getElem_mem hlt, by rw [HSS.out, HXY.out]; rfl⟩
                clear HXY
                go_wp2
                go_ret
                exact ⟨ret_bool HRT.out.symm, HG.out⟩
              | true =>
                have HRT : Hid (R = true) := by
                  show R = true
                  rw [← HR.out]; unfold partsL
                  rw [List.any_eq_true]
                  exact ⟨L[i], List.getElem_mem hlt, by rw [HSS.out, HXY.out]; rfl⟩
                clear HXY
                go_wp2
                go_ret
                exact ⟨ret_bool HRT.out.symm, HG.out⟩
        | true =>
          cases z with
          | false =>
            cases u with
            | false =>
              cases ob with
              | false =>
                have HPF : Hid (partS A B s = false) := by show partS A B s = false; rw [HXY.out]; rfl
                clear HXY
                go_wp2
                go_roundw
                case rel =>
                  refine ⟨i + 1, by go_num, by omega, fun j hj hji => ?_, HG.out⟩
                  by_cases hji' : j < i
                  · exact HP.out j hj hji'
                  · have e : j = i := by omega
                    subst e
                    rw [HSS.out]; exact HPF.out
                case measure => simp [intOf]; omega
              | true =>
                have HPF : Hid (partS A B s = false) := by show partS A B s = false; rw [HXY.out]; rfl
                clear HXY
                go_wp2
                go_roundw
                case rel =>
                  refine ⟨i + 1, by go_num, by omega, fun j hj hji => ?_, HG.out⟩
                  by_cases hji' : j < i
                  · exact HP.out j hj hji'
                  · have e : j = i := by omega
                    subst e
                    rw [HSS.out]; exact HPF.out
                case measure => simp [intOf]; omega
            | true =>
              cases ob with
              | false =>
                have HRT : Hid (R = true) := by
                  show R = true
                  rw [← HR.out]; unfold partsL
                  rw [List.any_eq_true]
                  exact ⟨L[i], List.getElem_mem hlt, by rw [HSS.out, HXY.out]; rfl⟩
                clear HXY
                go_wp2
                go_ret
                exact ⟨ret_bool HRT.out.symm, HG.out⟩
              | true =>
                have HPF : Hid (partS A B s = false) := by show partS A B s = false; rw [HXY.out]; rfl
                clear HXY
                go_wp2
                go_roundw
                case rel =>
                  refine ⟨i + 1, by go_num, by omega, fun j hj hji => ?_, HG.out⟩
                  by_cases hji' : j < i
                  · exact HP.out j hj hji'
                  · have e : j = i := by omega
                    subst e
                    rw [HSS.out]; exact HPF.out
                case measure => simp [intOf]; omega
          | true =>
            cases u with
            | false =>
              cases ob with
              | false =>
                have HRT : Hid (R = true) := by
                  show R = true
                  rw [← HR.out]; unfold partsL
                  rw [List.any_eq_true]
                  exact ⟨L[i], List.getElem_mem hlt, by rw [HSS.out, HXY.out]; rfl⟩
                clear HXY
                go_wp2
                go_ret
                exact ⟨ret_bool HRT.out.symm, HG.out⟩
              | true =>
                have HPF : Hid (partS A B s = false) := by show partS A B s = false; rw [HXY.out]; rfl
                clear HXY
                go_wp2
                go_roundw
                case rel =>
                  refine ⟨i + 1, by go_num, by omega, fun j hj hji => ?_, HG.out⟩
                  by_cases hji' : j < i
                  · exact HP.out j hj hji'
                  · have e : j = i := by omega
                    subst e
                    rw [HSS.out]; exact HPF.out
                case measure => simp [intOf]; omega
            | true =>
              cases ob with
              | false =>
                have HPF : Hid (partS A B s = false) := by show partS A B s = false; rw [HXY.out]; rfl
                clear HXY
                go_wp2
                go_roundw
                case rel =>
                  refine ⟨i + 1, by go_num, by omega, fun j hj hji => ?_, HG.out⟩
                  by_cases hji' : j < i
                  · exact HP.out j hj hji'
                  · have e : j = i := by omega
                    subst e
                    rw [HSS.out]; exact HPF.out
                case measure => simp [intOf]; omega
              | true =>
                have HPF : Hid (partS A B s = false) := by show partS A B s = false; rw [HXY.out]; rfl
                clear HXY
                go_wp2
                go_roundw
                case rel =>
                  refine ⟨i + 1, by go_num, by omega, fun j hj hji => ?_, HG.out⟩
                  by_cases hji' : j < i
                  · exact HP.out j hj hji'
                  · have e : j = i := by omega
                    subst e
                    rw [HSS.out]; exact HPF.out
                case measure => simp [intOf]; omega
    · have HRF : Hid (R = false) := by
        show R = false
        rw [← HR.out]; unfold partsL
        rw [List.any_eq_false]
        intro t ht
        obtain ⟨j, hj, rfl⟩ := List.getElem_of_mem ht
        rw [HP.out j hj (by omega)]; decide
      clear hi
      go_wp2
      go_ret
      exact ⟨ret_bool HRF.out.symm, HG.out⟩

set_option maxHeartbeats 400000 in
theorem parts_nil (sa sb : Value) (w : World) : Calls Tryd.prog 15 #[sa, sb, .slice none 0 0] w fun e w' => e = .returned (.bool false) ∧ w.grownBy w' none := by
  go_enter Tryd.func15, Tryd.ntmps15
  go_wp2
  go_loopw [7] (fun vi wr => vi = .int .i64 0 ∧ w.grownBy wr none) (fun vi _ => 0)
  case atStart => exact ⟨rfl, gb_refl _ _⟩
  case round =>
    obtain ⟨rfl, hg⟩ := hrel
    have HG : Hid (w.grownBy wr none) := hg
    clear hg
    go_wp2
    go_ret
    exact ⟨rfl, HG.out⟩
theorem cParts (sa sb sl : Value) (A B L : List Sp) (w : World) (hA : SpS w sa A) (hB : SpS w sb B) (h : SpS w sl L) (hAl : A.length ≤ 4194304) (hAs : ∀ s ∈ A, smallS s) (hBl : B.length ≤ 4194304) (hBs : ∀ s ∈ B, smallS s) (hL : L.length ≤ 4194304) (hsz : ∀ s ∈ L, smallS s) :
    Calls Tryd.prog 15 #[sa, sb, sl] w fun e w' => e = .returned (.bool (partsL A B L)) ∧ w.grownBy w' none := by
  rcases h with ⟨rfl, rfl⟩ | ⟨a, cap, rfl, h2, h3⟩
  · exact parts_nil sa sb w
  · exact parts_at sa sb a cap A B L w hA hB hAl hAs hBl hBs (by omega) h2 h3 hsz
end Go.Proofs.YtjbmgnnkbpgngaaDoor
