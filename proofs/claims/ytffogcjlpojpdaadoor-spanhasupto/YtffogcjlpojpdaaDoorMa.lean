/-
  Sweeping over edges, and telling bound by bound: one list.
-/
import Derived.Test.YtffogcjlpojpdaaDoorVr
namespace Go.Proofs.YtffogcjlpojpdaaDoor
set_option linter.unusedVariables false

/-! ### the order, in small words -/
def vlt (a b : V) : Prop := verC a b < 0
theorem v_self (a : V) : verC a a = 0 := good_ver.self a
theorem v_anti (a b : V) : verC b a = - verC a b := good_ver.anti a b
theorem v_le_trans {a b d : V} (h1 : verC a b ≤ 0) (h2 : verC b d ≤ 0) : verC a d ≤ 0 := (good_ver.trans a b d h1 h2).1
theorem v_lt_le {a b d : V} (h1 : verC a b < 0) (h2 : verC b d ≤ 0) : verC a d < 0 := by
  have h := good_ver.trans a b d (by omega) h2
  have : verC a d ≠ 0 := fun e => by have := h.2.2 e; omega
  omega
theorem v_le_lt {a b d : V} (h1 : verC a b ≤ 0) (h2 : verC b d < 0) : verC a d < 0 := by
  have h := good_ver.trans a b d h1 (by omega)
  have : verC a d ≠ 0 := fun e => by have := h.2.2 e; omega
  omega
theorem v_lt_trans {a b d : V} (h1 : verC a b < 0) (h2 : verC b d < 0) : verC a d < 0 := v_lt_le h1 (by omega)

/-! ### toggles -/
/-- where h turns, along a list -/
def tog (h : V → Bool) : Bool → List V → List V
  | _, [] => []
  | on, p :: ps => if h p = on then tog h on ps else p :: tog h (h p) ps

/-- the turns of a longer list, where what is more does not turn -/
inductive Sub (h : V → Bool) : Bool → List V → List V → Prop
  | nil (on : Bool) : Sub h on [] []
  | both {on : Bool} {p : V} {D P : List V} : Sub h (h p) D P → Sub h on (p :: D) (p :: P)
  | skip {on : Bool} {p : V} {D P : List V} : h p = on → Sub h on D P → Sub h on (p :: D) P
theorem tog_sub {h : V → Bool} {on : Bool} {D P : List V} (s : Sub h on D P) : tog h on D = tog h on P := by
  induction s with
  | nil => rfl
  | @both on p D P _ ih =>
    unfold tog
    by_cases hp : h p = on
    · rw [if_pos hp, if_pos hp]; rw [hp] at ih; exact ih
    · rw [if_neg hp, if_neg hp, ih]
  | @skip on p D P hp _ ih =>
    rw [tog, if_pos hp]; exact ih

def Rising (l : List V) : Prop := l.Pairwise fun a b => verC a b < 0

theorem sub_rising (h : V → Bool) : ∀ (D P : List V) (y : Option V) (on : Bool),
    Rising D → Rising P → (∀ p ∈ P, p ∈ D) → (∀ z, y = some z → (∀ p ∈ D, verC z p < 0) ∧ on = h z) → (y = none → on = false) →
    (∀ x, x ∈ D → x ∉ P → (∀ p ∈ P, verC x p < 0) → h x = on) →
    (∀ x z, x ∈ D → x ∉ P → z ∈ P → verC z x < 0 → (∀ p ∈ P, verC z p < 0 → verC x p < 0) → h x = h z) → Sub h on D P
  | [], P, y, on, hD, hP, hs, hy, hn, h0, h1 => by
    cases P with
    | nil => exact Sub.nil on
    | cons p P => exact absurd (hs p (by simp)) (by simp)
  | d :: D, P, y, on, hD, hP, hs, hy, hn, h0, h1 => by
    have hDd := (List.pairwise_cons.1 hD).1
    have hDr := (List.pairwise_cons.1 hD).2
    by_cases hd : d ∈ P
    · cases P with
      | nil => simp at hd
      | cons p P =>
        have hPp := (List.pairwise_cons.1 hP).1
        have hPr := (List.pairwise_cons.1 hP).2
        have hpd : p = d := by
          rcases List.mem_cons.1 hd with e | e
          · exact e.symm
          · exfalso
            have a1 := hPp d e
            rcases List.mem_cons.1 (hs p (by simp)) with e2 | e2
            · rw [e2, v_self] at a1; omega
            · have a2 := hDd p e2
              have := v_anti p d; omega
        subst hpd
        refine Sub.both (sub_rising h D P (some p) (h p) hDr hPr ?_ (fun z e => by cases e; exact ⟨hDd, rfl⟩) (fun e => by cases e) ?_ ?_)
        · intro q hq
          rcases List.mem_cons.1 (hs q (by simp [hq])) with e | e
          · exfalso; have := hPp q hq; rw [e, v_self] at this; omega
          · exact e
        · intro x hx hxP hlt
          refine h1 x p (by simp [hx]) ?_ (by simp) (hDd x hx) ?_
          · intro e
            rcases List.mem_cons.1 e with e | e
            · have := hDd x hx; rw [e, v_self] at this; omega
            · exact hxP e
          · intro q hq hpq
            rcases List.mem_cons.1 hq with e | e
            · rw [e, v_self] at hpq; omega
            · exact hlt q e
        · intro x z hx hxP hz hzx hall
          refine h1 x z (by simp [hx]) ?_ (by simp [hz]) hzx ?_
          · intro e
            rcases List.mem_cons.1 e with e | e
            · have := hDd x hx; rw [e, v_self] at this; omega
            · exact hxP e
          · intro q hq hzq
            rcases List.mem_cons.1 hq with e | e
            · have := hPp z hz; rw [e] at hzq; have := v_anti p z; omega
            · exact hall q e hzq
    · have hall : ∀ p ∈ P, verC d p < 0 := fun p hp => by
        rcases List.mem_cons.1 (hs p hp) with e | e
        · exact absurd (e ▸ hp) hd
        · exact hDd p e
      refine Sub.skip (h0 d (by simp) hd hall) (sub_rising h D P y on hDr hP ?_ (fun z e => ⟨fun p hp => (hy z e).1 p (by simp [hp]), (hy z e).2⟩) hn ?_ ?_)
      · intro q hq
        rcases List.mem_cons.1 (hs q hq) with e | e
        · exact absurd (e ▸ hq) hd
        · exact e
      · intro x hx hxP hlt
        exact h0 x (by simp [hx]) hxP hlt
      · intro x z hx hxP hz hzx hall'
        exact h1 x z (by simp [hx]) hxP hz hzx hall'
end Go.Proofs.YtffogcjlpojpdaaDoor
