/-
  What a sweep tells is what the bounds tell.
-/
import Derived.Test.YtffogcjlpojpdaaDoorMc
namespace Go.Proofs.YtffogcjlpojpdaaDoor
set_option linter.unusedVariables false

/-- a span, its Builds left out -/
structure Sg where
  fr : V
  to_ : V
  op : Bool
def hasG (s : Sg) (x : V) : Bool := decide (verC s.fr x ≤ 0) && (s.op || decide (verC x s.to_ < 0))
def holdsG (l : List Sg) (x : V) : Bool := l.any fun s => hasG s x
/-- the edges of a span of list k -/
def edS (k : Nat) (s : Sg) : List Ed := if s.op = true then [⟨s.fr, k, 1⟩] else if verC s.fr s.to_ < 0 then [⟨s.fr, k, 1⟩, ⟨s.to_, k, -1⟩] else []
def edL : Nat → List (List Sg) → List Ed
  | _, [] => []
  | k, l :: Ls => l.flatMap (edS k) ++ edL (k + 1) Ls
def cnt (l : List Sg) (x : V) : Int := (l.countP fun s => hasG s x : Nat)

theorem sum_span (k j : Nat) (s : Sg) (x : V) : sumB (edS k s) j x = if j = k then (if hasG s x = true then 1 else 0) else 0 := by
  unfold edS hasG
  by_cases ho : s.op = true
  · rw [if_pos ho, ho]
    simp only [sumB, Bool.true_or, Bool.and_true, decide_eq_true_eq]
    by_cases hj : j = k <;> simp [hj]
  · have ho' : s.op = false := by simpa using ho
    rw [if_neg ho, ho']
    simp only [Bool.false_or, Bool.and_eq_true, decide_eq_true_eq]
    have ha := v_anti x s.to_
    by_cases hlt : verC s.fr s.to_ < 0
    · rw [if_pos hlt]
      simp only [sumB]
      by_cases hj : j = k
      · simp only [hj, true_and, if_true]
        by_cases h1 : verC s.fr x ≤ 0
        · by_cases h2 : verC x s.to_ < 0
          · have h3 : ¬ verC s.to_ x ≤ 0 := by omega
            simp [h1, h2, h3]
          · have h3 : verC s.to_ x ≤ 0 := by omega
            simp [h1, h2, h3]
        · have h3 : ¬ verC s.to_ x ≤ 0 := fun h => h1 (by have := v_lt_le hlt h; omega)
          simp [h1, h3]
      · simp [hj]
    · rw [if_neg hlt]
      simp only [sumB]
      have : ¬ (verC s.fr x ≤ 0 ∧ verC x s.to_ < 0) := fun h => hlt (v_le_lt h.1 h.2)
      rw [if_neg this]; simp
theorem sum_list (k j : Nat) (l : List Sg) (x : V) : sumB (l.flatMap (edS k)) j x = if j = k then cnt l x else 0 := by
  induction l with
  | nil => simp [sumB, cnt]
  | cons s l ih =>
    rw [List.flatMap_cons, sumB_app, ih, sum_span]
    unfold cnt
    rw [List.countP_cons]
    by_cases hj : j = k
    · simp only [hj, if_true]
      by_cases h : hasG s x = true <;> simp [h]; omega
    · simp [hj]
theorem sum_lists (x : V) : ∀ (Ls : List (List Sg)) (k j : Nat), sumB (edL k Ls) j x = if k ≤ j then (match Ls[j - k]? with | some l => cnt l x | none => 0) else 0
  | [], k, j => by simp [edL, sumB]
  | l :: Ls, k, j => by
    rw [edL, sumB_app, sum_list, sum_lists x Ls (k + 1) j]
    by_cases hk : k ≤ j
    · by_cases hj : j = k
      · subst hj
        rw [if_pos rfl, if_neg (show ¬ j + 1 ≤ j by omega), if_pos hk]
        simp
      · have h1 : k + 1 ≤ j := by omega
        rw [if_neg hj, if_pos h1, if_pos hk, show j - k = (j - (k + 1)) + 1 by omega, List.getElem?_cons_succ]
        omega
    · have h1 : ¬ k + 1 ≤ j := by omega
      rw [if_neg (by omega), if_neg h1, if_neg hk]; rfl

/-- how many of n lists have begun -/
def having (n : Nat) (b : Nat → Int) : Int := ((List.range n).map fun j => min (b j) 1).sum
theorem sumB_perm {A B : List Ed} (h : A.Perm B) (j : Nat) (x : V) : sumB A j x = sumB B j x := by
  induction h with
  | nil => rfl
  | cons e _ ih => simp only [sumB, ih]
  | swap a b l => simp only [sumB]; omega
  | trans _ _ ih1 ih2 => exact ih1.trans ih2
theorem cnt_min (l : List Sg) (x : V) : min (cnt l x) 1 = if holdsG l x = true then 1 else 0 := by
  unfold cnt holdsG
  by_cases h : (l.any fun s => hasG s x) = true
  · rw [if_pos h]
    obtain ⟨s, hs, hh⟩ := List.any_eq_true.1 h
    have : 0 < l.countP fun s => hasG s x := List.countP_pos_iff.2 ⟨s, hs, hh⟩
    omega
  · rw [if_neg h]
    have : l.countP (fun s => hasG s x) = 0 := by
      rw [List.countP_eq_zero]
      intro s hs hh
      exact h (List.any_eq_true.2 ⟨s, hs, hh⟩)
    omega
/-- how many of the lists have x -/
def haveN (Ls : List (List Sg)) (x : V) : Int := (Ls.map fun l => if holdsG l x = true then (1 : Int) else 0).sum
theorem having_lists (Ls : List (List Sg)) (E : List Ed) (hE : E.Perm (edL 0 Ls)) (x : V) : having Ls.length (fun j => sumB E j x) = haveN Ls x := by
  unfold having haveN
  have : (List.range Ls.length).map (fun j => min (sumB E j x) 1) = Ls.map fun l => if holdsG l x = true then (1 : Int) else 0 := by
    apply List.ext_getElem
    · simp
    · intro i h1 h2
      have hi : i < Ls.length := by simpa using h2
      rw [List.getElem_map, List.getElem_range, List.getElem_map, sumB_perm hE, sum_lists, if_pos (Nat.zero_le _)]
      simp only [Nat.sub_zero, List.getElem?_eq_getElem hi]
      exact cnt_min _ _
  rw [this]

/-- the sweep's turns are the bounds' turns -/
theorem sweep_bounds (ch : Int → Bool) (h0 : ch 0 = false) (Ls : List (List Sg)) (E : List Ed) (hE : E.Perm (edL 0 Ls)) (hs : SortedE E) (D : List V) (hD : Rising D) (hin : ∀ p ∈ poss E, p ∈ D) :
    swT (fun b => ch (having Ls.length b)) (fun _ => 0) false E = tog (fun x => ch (haveN Ls x)) false D := by
  have hh : ∀ x, (fun x => ch (haveN Ls x)) x = (fun b => ch (having Ls.length b)) (fun j => sumB E j x) := fun x => by
    simp only [having_lists Ls E hE]
  have e1 := swT_tog (fun b => ch (having Ls.length b)) E (fun x => ch (haveN Ls x)) hh hs E [] false rfl
  have e2 : (fun j => tot [] j) = (fun _ => (0 : Int)) := rfl
  rw [e2] at e1
  rw [e1]
  have hne : ∀ e ∈ E, ∃ p ∈ poss E, verC e.at_ p = 0 := (poss_mem E hs).2
  refine (tog_sub (sub_rising _ D (poss E) none false hD (poss_rising E hs) hin (fun z e => by cases e) (fun _ => rfl) ?_ ?_)).symm
  · intro x hx hxP hlt
    show ch (haveN Ls x) = false
    rw [← having_lists Ls E hE]
    have : (fun j => sumB E j x) = fun _ => (0 : Int) := by
      funext j
      refine sumB_none E j x fun e he hle => ?_
      obtain ⟨p, hp, h0⟩ := hne e he
      have a1 := hlt p hp
      have a2 := v_anti e.at_ p
      have a3 := v_le_trans (show verC p e.at_ ≤ 0 by omega) hle
      have a4 := v_anti x p
      omega
    rw [this]
    have : having Ls.length (fun _ => (0 : Int)) = 0 := by
      unfold having
      induction Ls.length with
      | zero => rfl
      | succ n ih => rw [List.range_succ, List.map_append, List.sum_append, ih]; rfl
    rw [this]; exact h0
  · intro x z hx hxP hz hzx hall
    show ch (haveN Ls x) = ch (haveN Ls z)
    rw [← having_lists Ls E hE, ← having_lists Ls E hE]
    congr 2
    funext j
    refine sumB_congr E j x z fun e he => ?_
    obtain ⟨p, hp, h0⟩ := hne e he
    have a2 := v_anti e.at_ p
    by_cases hzp : verC z p < 0
    · have hxp := hall p hp hzp
      constructor
      · intro h
        exfalso
        have a3 := v_le_trans (show verC p e.at_ ≤ 0 by omega) h
        have a4 := v_anti x p
        omega
      · intro h
        exfalso
        have a3 := v_le_trans (show verC p e.at_ ≤ 0 by omega) h
        have a4 := v_anti z p
        omega
    · have hpz : verC p z ≤ 0 := by have := v_anti z p; omega
      have hez : verC e.at_ z ≤ 0 := v_le_trans (show verC e.at_ p ≤ 0 by omega) hpz
      exact ⟨fun _ => hez, fun _ => by have := v_le_lt hez hzx; omega⟩
end Go.Proofs.YtffogcjlpojpdaaDoor
