/-
  The sweep's turns are the turns along its places.
-/
import Derived.Test.YtffogcjlpojpdaaDoorMa
namespace Go.Proofs.YtffogcjlpojpdaaDoor
set_option linter.unusedVariables false

/-- an edge -/
structure Ed where
  at_ : V
  l : Nat
  d : Int
def upd (b : Nat → Int) (l : Nat) (d : Int) : Nat → Int := fun j => if j = l then b j + d else b j
/-- the steps of list j, in all -/
def tot : List Ed → Nat → Int
  | [], _ => 0
  | e :: r, j => (if j = e.l then e.d else 0) + tot r j
/-- the steps of list j up to x -/
def sumB : List Ed → Nat → V → Int
  | [], _, _ => 0
  | e :: r, j, x => (if j = e.l ∧ verC e.at_ x ≤ 0 then e.d else 0) + sumB r j x
def nextSame (e : Ed) : List Ed → Bool
  | [] => false
  | e' :: _ => decide (verC e.at_ e'.at_ = 0)
def swT (wt : (Nat → Int) → Bool) : (Nat → Int) → Bool → List Ed → List V
  | _, _, [] => []
  | b, on, e :: r =>
    if nextSame e r = true then swT wt (upd b e.l e.d) on r
    else if wt (upd b e.l e.d) = on then swT wt (upd b e.l e.d) on r
    else e.at_ :: swT wt (upd b e.l e.d) (wt (upd b e.l e.d)) r
/-- the places of a list of edges, each once -/
def poss : List Ed → List V
  | [] => []
  | e :: r => if nextSame e r = true then poss r else e.at_ :: poss r
def SortedE (E : List Ed) : Prop := E.Pairwise fun a b => verC a.at_ b.at_ ≤ 0

theorem tot_app (A B : List Ed) (j : Nat) : tot (A ++ B) j = tot A j + tot B j := by
  induction A with
  | nil => simp [tot]
  | cons e A ih => simp only [List.cons_append, tot, ih]; omega
theorem sumB_app (A B : List Ed) (j : Nat) (x : V) : sumB (A ++ B) j x = sumB A j x + sumB B j x := by
  induction A with
  | nil => simp [sumB]
  | cons e A ih => simp only [List.cons_append, sumB, ih]; omega
theorem sumB_all (A : List Ed) (j : Nat) (x : V) (h : ∀ e ∈ A, verC e.at_ x ≤ 0) : sumB A j x = tot A j := by
  induction A with
  | nil => rfl
  | cons e A ih =>
    have he := h e (by simp)
    simp only [sumB, tot, ih (fun e' h' => h e' (by simp [h'])), he, and_true]
theorem sumB_none (A : List Ed) (j : Nat) (x : V) (h : ∀ e ∈ A, ¬ verC e.at_ x ≤ 0) : sumB A j x = 0 := by
  induction A with
  | nil => rfl
  | cons e A ih =>
    have he := h e (by simp)
    simp only [sumB, ih (fun e' h' => h e' (by simp [h'])), he, and_false, if_false]
    omega
theorem sumB_congr (A : List Ed) (j : Nat) (x y : V) (h : ∀ e ∈ A, verC e.at_ x ≤ 0 ↔ verC e.at_ y ≤ 0) : sumB A j x = sumB A j y := by
  induction A with
  | nil => rfl
  | cons e A ih =>
    have he := h e (by simp)
    simp only [sumB, ih (fun e' h' => h e' (by simp [h'])), he]

theorem behind_all {e : Ed} {r : List Ed} (hs : SortedE (e :: r)) (hn : ¬ nextSame e r = true) : ∀ e' ∈ r, verC e.at_ e'.at_ < 0 := by
  cases r with
  | nil => intro e' h; simp at h
  | cons f r =>
    have h1 := (List.pairwise_cons.1 hs).1
    have h2 := (List.pairwise_cons.1 (List.pairwise_cons.1 hs).2).1
    have hf : verC e.at_ f.at_ < 0 := by
      have a1 := h1 f (by simp)
      have a2 : verC e.at_ f.at_ ≠ 0 := fun e0 => hn (by simp [nextSame, e0])
      omega
    intro e' he'
    rcases List.mem_cons.1 he' with rfl | he'
    · exact hf
    · exact v_lt_le hf (h2 e' he')

theorem swT_tog (wt : (Nat → Int) → Bool) (E : List Ed) (h : V → Bool) (hh : ∀ x, h x = wt (fun j => sumB E j x)) (hs : SortedE E) :
    ∀ (r pre : List Ed) (on : Bool), E = pre ++ r → swT wt (fun j => tot pre j) on r = tog h on (poss r)
  | [], pre, on, hE => rfl
  | e :: r, pre, on, hE => by
    have hE' : E = (pre ++ [e]) ++ r := by rw [hE]; simp
    have hb : upd (fun j => tot pre j) e.l e.d = fun j => tot (pre ++ [e]) j := by
      funext j
      rw [tot_app]
      unfold upd
      by_cases hj : j = e.l
      · simp [tot, hj]
      · simp [tot, hj]
    have ih := fun on => swT_tog wt E h hh hs r (pre ++ [e]) on hE'
    unfold swT poss
    rw [hb]
    by_cases hn : nextSame e r = true
    · rw [if_pos hn, if_pos hn]; exact ih on
    · rw [if_neg hn, if_neg hn]
      have hw : wt (fun j => tot (pre ++ [e]) j) = h e.at_ := by
        rw [hh]
        congr 1
        funext j
        rw [hE', sumB_app]
        have hsr : SortedE (e :: r) := by rw [hE] at hs; exact (List.pairwise_append.1 hs).2.1
        have hpre : ∀ e' ∈ pre ++ [e], verC e'.at_ e.at_ ≤ 0 := by
          intro e' he'
          rcases List.mem_append.1 he' with h1 | h1
          · rw [hE] at hs; exact (List.pairwise_append.1 hs).2.2 e' h1 e (by simp)
          · simp at h1; rw [h1, v_self]; omega
        have hr := behind_all hsr hn
        rw [sumB_all _ j _ hpre, sumB_none r j _ (fun e' he' => by have := hr e' he'; have := v_anti e.at_ e'.at_; omega)]
        omega
      rw [hw]
      unfold tog
      by_cases ho : h e.at_ = on
      · rw [if_pos ho, if_pos ho]; exact ih on
      · rw [if_neg ho, if_neg ho, ih]

theorem poss_mem (E : List Ed) (hs : SortedE E) : (∀ p ∈ poss E, ∃ e ∈ E, e.at_ = p) ∧ (∀ e ∈ E, ∃ p ∈ poss E, verC e.at_ p = 0) := by
  induction E with
  | nil => exact ⟨by simp [poss], by simp⟩
  | cons e r ih =>
    obtain ⟨i1, i2⟩ := ih (List.pairwise_cons.1 hs).2
    unfold poss
    by_cases hn : nextSame e r = true
    · rw [if_pos hn]
      refine ⟨fun p hp => ?_, fun e' he' => ?_⟩
      · obtain ⟨e', h1, h2⟩ := i1 p hp; exact ⟨e', by simp [h1], h2⟩
      · rcases List.mem_cons.1 he' with rfl | he'
        · cases r with
          | nil => simp [nextSame] at hn
          | cons f r =>
            have hf : verC e'.at_ f.at_ = 0 := by simpa [nextSame] using hn
            obtain ⟨p, hp, h0⟩ := i2 f (by simp)
            exact ⟨p, hp, by have := (good_ver.trans e'.at_ f.at_ p (by omega) (by omega)).2.1 ⟨hf, h0⟩; exact this⟩
        · exact i2 e' he'
    · rw [if_neg hn]
      refine ⟨fun p hp => ?_, fun e' he' => ?_⟩
      · rcases List.mem_cons.1 hp with rfl | hp
        · exact ⟨e, by simp, rfl⟩
        · obtain ⟨e', h1, h2⟩ := i1 p hp; exact ⟨e', by simp [h1], h2⟩
      · rcases List.mem_cons.1 he' with rfl | he'
        · exact ⟨e'.at_, by simp, v_self _⟩
        · obtain ⟨p, hp, h0⟩ := i2 e' he'; exact ⟨p, by simp [hp], h0⟩
theorem poss_rising (E : List Ed) (hs : SortedE E) : Rising (poss E) := by
  induction E with
  | nil => exact List.Pairwise.nil
  | cons e r ih =>
    have hr := (List.pairwise_cons.1 hs).2
    unfold poss
    by_cases hn : nextSame e r = true
    · rw [if_pos hn]; exact ih hr
    · rw [if_neg hn]
      refine List.pairwise_cons.2 ⟨fun p hp => ?_, ih hr⟩
      obtain ⟨e', h1, rfl⟩ := (poss_mem r hr).1 p hp
      exact behind_all hs hn e' h1
end Go.Proofs.YtffogcjlpojpdaaDoor
