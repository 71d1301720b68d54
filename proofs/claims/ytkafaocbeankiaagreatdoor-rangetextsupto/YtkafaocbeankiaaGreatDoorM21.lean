import Derived.Test.YtkafaocbeankiaaGreatDoorM11
import Derived.Test.YtkafaocbeankiaaGreatDoorM15
import Derived.Test.YtkafaocbeankiaaGreatDoorM20
/-
  What a sweep tells is what the bounds tell.
-/
namespace Go.Proofs.YtkafaocbeankiaaGreatDoor
set_option linter.unusedVariables false

/-- a span, its Builds left out -/
structure Sg where
  fr : V
  to_ : V
  op : Bool
def hasG (s : Sg) (x : V) : Bool := decide (verC s.fr x ≤ 0) && (s.op || decide (verC x s.to_ < 0))
def holdsG (l : List Sg) (x : V) : Bool := l.any fun s => hasG s x
/-- the edges of a span of list k -/
def edS (k : Nat) (s : Sg) : List Ed := if s.op = true then [⟨s.fr, k, 1⟩] else if verC s.fr s.to_ < 0 then [⟨s.fr, k, 1⟩, ⟨s.to_, k, -1⟩] else []
def edL : Nat → List (List Sg) → List Ed
  | _, [] => []
  | k, l :: Ls => l.flatMap (edS k) ++ edL (k + 1) Ls
def cnt (l : List Sg) (x : V) : Int := (l.countP fun s => hasG s x : Nat)

theorem sum_span (k j : Nat) (s : Sg) (x : V) : sumB (edS k s) j x = if j = k then (if hasG s x = true then 1 else 0) else 0 := by
  unfold edS hasG
  by_cases ho : s.op = true
  · rw [if_pos ho, ho]
    simp only [sumB, Bool.true_or, Bool.and_true, decide_eq_true_eq]
    by_cases hj : j = k <;> simp [hj]
  · have ho' : s.op = false := by simpa using ho
    rw [if_neg ho, ho']
    simp only [Bool.false_or, Bool.and_eq_true, decide_eq_true_eq]
    have ha := v_anti x s.to_
    by_cases hlt : verC s.fr s.to_ < 0
    · rw [if_pos hlt]
      simp only [sumB]
      by_cases hj : j = k
      · simp only [hj, true_and, if_true]
        by_cases h1 : verC s.fr x ≤ 0
        · by_cases h2 : verC x s.to_ < 0
          · have h3 : ¬ verC s.to_ x ≤ 0 := by omega
            simp [h1, h2, h3]
          · have h3 : verC s.to_ x ≤ 0 := by omega
            simp [h1, h2, h3]
        · have h3 : ¬ verC s.to_ x ≤ 0 := fun h => h1 (by have := v_lt_le hlt h; omega)
          simp [h1, h3]
      · simp [hj]
    · rw [if_neg hlt]
      simp only [sumB]
      have : ¬ (verC s.fr x ≤ 0 ∧ verC x s.to_ < 0) := fun h => hlt (v_le_lt h.1 h.2)
      rw [if_neg this]; simp
theorem sum_list (k j : Nat) (l : List Sg) (x : V) : sumB (l.flatMap (edS k)) j x = if j = k then cnt l x else 0 := by
  induction l with
  | nil => simp [sumB, cnt]
  | cons s l ih =>
    rw [List.flatMap_cons, sumB_app, ih, sum_span]
    unfold cnt
    rw [List.countP_cons]
    by_cases hj : j = k
    · simp only [hj, if_true]
      by_cases h : hasG s x = true <;> simp [h]; omega
    · simp [hj]
theorem sum_lists (x : V) : ∀ (Ls : List (List Sg)) (k j : Nat), sumB (edL k Ls) j x = if k ≤ j then (match Ls[j - k]? with | some l => cnt l x | none => 0) else 0
  | [], k, j => by simp [edL, sumB]
  | l :: Ls, k, j => by
    rw [edL, sumB_app, sum_list, sum_lists x Ls (k + 1) j]
    by_cases hk : k ≤ j
    · by_cases hj : j = k
      · subst hj
        rw [if_pos rfl, if_neg (show ¬ j + 1 ≤ j by omega), if_pos hk]
        simp
      · have h1 : k + 1 ≤ j := by omega
        rw [if_neg hj, if_pos h1, if_pos hk, show j - k = (j - (k + 1)) + 1 by omega, List.getElem?_cons_succ]
        omega
    · have h1 : ¬ k + 1 ≤ j := by omega
      rw [if_neg (by omega), if_neg h1, if_neg hk]; rfl

/-- how many of n lists have begun -/
def having (n : Nat) (b : Nat → Int) : Int := ((List.range n).map fun j => min (b j) 1).sum
theorem sumB_perm {A B : List Ed} (h : A.Perm B) (j : Nat) (x : V) : sumB A j x = sumB B j x := by
  induction h with
  | nil => rfl
  | cons e _ ih => simp only [sumB, ih]
  | swap a b l => simp only [sumB]; omega
  | trans _ _ ih1 ih2 => exact ih1.trans ih2
theorem cnt_min (l : List Sg) (x : V) : min (cnt l x) 1 = if holdsG l x = true then 1 else 0 := by
  unfold cnt holdsG
  by_cases h : (l.any fun s => hasG s x) = true
  · rw [if_pos h]
    obtain ⟨s, hs, hh⟩ := List.any_eq_true.1 h
    have : 0 < l.countP fun s => hasG s x := List.countP_pos_iff.2 ⟨s, hs, hh⟩
    omega
  · rw [if_neg h]
    have : l.countP (fun s => hasG s x) = 0 := by
      rw [List.countP_eq_zero]
      intro s hs hh
      exact h (List.any_eq_true.2 ⟨s, hs, hh⟩)
    omega
/-- how many of the lists have x -/
def haveN (Ls : List (List Sg)) (x : V) : Int := (Ls.map fun l => if holdsG l x = true then (1 : Int) else 0).sum
theorem having_lists (Ls : List (List Sg)) (E : List Ed) (hE : E.Perm (edL 0 Ls)) (x : V) : having Ls.length (fun j => sumB E j x) = haveN Ls x := by
  unfold having haveN
  have : (List.range Ls.length).map (fun j => min (sumB E j x) 1) = Ls.map fun l => if holdsG l x = true then (1 : Int) else 0 := by
    apply List.ext_getElem
    · simp
    · intro i h1 h2
      have hi : i < Ls.length := by simpa using h2
      rw [List.getElem_map, List.getElem_range, List.getElem_map, sumB_perm hE, sum_lists, if_pos (Nat.zero_le _)]
      simp only [Nat.sub_zero, List.getElem?_eq_getElem hi]
      exact cnt_min _ _
  rw [this]

/-- the sweep's turns are the bounds' turns -/
theorem sweep_bounds (ch : Int → Bool) (h0 : ch 0 = false) (Ls : List (List Sg)) (E : List Ed) (hE : E.Perm (edL 0 Ls)) (hs : SortedE E) (D : List V) (hD : Rising D) (hin : ∀ p ∈ poss E, p ∈ D) :
    swT (fun b => ch (having Ls.length b)) (fun _ => 0) false E = tog (fun x => ch (haveN Ls x)) false D := by
  have hh : ∀ x, (fun x => ch (haveN Ls x)) x = (fun b => ch (having Ls.length b)) (fun j => sumB E j x) := fun x => by
    simp only [having_lists Ls E hE]
  have e1 := swT_tog (fun b => ch (having Ls.length b)) E (fun x => ch (haveN Ls x)) hh hs E [] false rfl
  have e2 : (fun j => tot [] j) = (fun _ => (0 : Int)) := rfl
  rw [e2] at e1
  rw [e1]
  have hne : ∀ e ∈ E, ∃ p ∈ poss E, verC e.at_ p = 0 := (poss_mem E hs).2
  refine (tog_sub (sub_rising _ D (poss E) none false hD (poss_rising E hs) hin (fun z e => by cases e) (fun _ => rfl) ?_ ?_)).symm
  · intro x hx hxP hlt
    show ch (haveN Ls x) = false
    rw [← having_lists Ls E hE]
    have : (fun j => sumB E j x) = fun _ => (0 : Int) := by
      funext j
      refine sumB_none E j x fun e he hle => ?_
      obtain ⟨p, hp, h0⟩ := hne e he
      have a1 := hlt p hp
      have a2 := v_anti e.at_ p
      have a3 := v_le_trans (show verC p e.at_ ≤ 0 by omega) hle
      have a4 := v_anti x p
      omega
    rw [this]
    have : having Ls.length (fun _ => (0 : Int)) = 0 := by
      unfold having
      induction Ls.length with
      | zero => rfl
      | succ n ih => rw [List.range_succ, List.map_append, List.sum_append, ih]; rfl
    rw [this]; exact h0
  · intro x z hx hxP hz hzx hall
    show ch (haveN Ls x) = ch (haveN Ls z)
    rw [← having_lists Ls E hE, ← having_lists Ls E hE]
    congr 2
    funext j
    refine sumB_congr E j x z fun e he => ?_
    obtain ⟨p, hp, h0⟩ := hne e he
    have a2 := v_anti e.at_ p
    by_cases hzp : verC z p < 0
    · have hxp := hall p hp hzp
      constructor
      · intro h
        exfalso
        have a3 := v_le_trans (show verC p e.at_ ≤ 0 by omega) h
        have a4 := v_anti x p
        omega
      · intro h
        exfalso
        have a3 := v_le_trans (show verC p e.at_ ≤ 0 by omega) h
        have a4 := v_anti z p
        omega
    · have hpz : verC p z ≤ 0 := by have := v_anti z p; omega
      have hez : verC e.at_ z ≤ 0 := v_le_trans (show verC e.at_ p ≤ 0 by omega) hpz
      exact ⟨fun _ => hez, fun _ => by have := v_le_lt hez hzx; omega⟩
end Go.Proofs.YtkafaocbeankiaaGreatDoor

/-
  The small functions of the sweep, walked.
-/
namespace Go.Proofs.YtkafaocbeankiaaGreatDoor
open Go.RowKit
set_option linter.unusedVariables false

set_option maxHeartbeats 400000 in
theorem some_any (x y : Int) (w : World) : Calls Tryz.prog 20 #[.int .i64 x, .int .i64 y] w fun e w' => e = .returned (.bool (decide (0 < x))) ∧ w' = w := by
  go_enter Tryz.func20, Tryz.ntmps20
  go_wp2
  go_ret
  exact ⟨rfl, rfl⟩
set_option maxHeartbeats 400000 in
theorem begin_any (g o : Nat) (x d : Int) (w : World) (h : w.cell? ⟨g, o, none⟩ = some (.int .i64 x)) (hf : w.frozen? ⟨g, o, none⟩ = false) (h1 : -4611686018427387904 ≤ x ∧ x ≤ 4611686018427387904) (h2 : -1 ≤ d ∧ d ≤ 1) :
    Calls Tryz.prog 35 #[.pointer (some ⟨g, o, none⟩), .int .i64 d] w fun e w' => e = .returned (.int .i64 (min (x + d) 1 - min x 1)) ∧ w' = w.setCell ⟨g, o, none⟩ (.int .i64 (x + d)) := by
  have r1 : IntKind.i64.wrap (x + d) = x + d := by rw [IntKind.wrap_i64]; omega
  have r2 : IntKind.i64.wrap (min (x + d) 1 - min x 1) = min (x + d) 1 - min x 1 := by rw [IntKind.wrap_i64]; omega
  go_enter Tryz.func35, Tryz.ntmps35
  go_wp2
  go_ret
  exact ⟨rfl, rfl⟩
set_option maxHeartbeats 400000 in
theorem bound_any (a1 a2 a3 : Int) (a4 a5 : ByteArray) (w : World) (hs : a4.size ≤ 281474976710656) :
    Calls Tryz.prog 37 #[.agg #[.int .i64 a1, .int .i64 a2, .int .i64 a3, .string a4, .string a5]] w fun e w' => e = .returned (.agg #[.int .i64 a1, .int .i64 a2, .int .i64 a3, .string a4, .string ⟨#[]⟩]) ∧ w.grownBy w' none := by
  have CC : Hid (∀ w, Calls Tryz.prog 54 #[.string a4] w fun e w' => e = .returned (.string a4) ∧ w.grownBy w' none) := fun w => clone_any a4 w hs
  clear hs
  go_enter Tryz.func37, Tryz.ntmps37
  go_wp2_with (first | (go_at_call 54; refine (CC.out _).mono ?_))
  rintro e w1 ⟨rfl, hg⟩
  obtain ⟨A, hA⟩ : ∃ A, w.heap.size = A := ⟨_, rfl⟩
  have HXA : Hid (VX A a1 a2 a3 a4 a5 w1) := by
    show w1.heap[A]? = _
    rw [hg.block A (by rw [← hA]; simp; omega) (by simp), ← hA, Lib.alloc_old _ _ _ (by simp)]
    exact heap_alloc_new w _
  have HXB : Hid (VX (A + 1) 0 0 0 ⟨#[]⟩ ⟨#[]⟩ w1) := by
    show w1.heap[A + 1]? = _
    rw [hg.block (A + 1) (by rw [← hA]; simp) (by simp)]
    have := heap_alloc_new (w.alloc (.cells #[.int .i64 a1, .int .i64 a2, .int .i64 a3, .string a4, .string a5] 35)) (.cells #[.int .i64 0, .int .i64 0, .int .i64 0, .string ⟨#[]⟩, .string ⟨#[]⟩] 35)
    rw [← hA]
    simpa using this
  have HG : Hid (w.grownBy w1 none) := gb_trans (gb_alloc (gb_alloc (gb_refl w none) _) _) hg
  have HWA : Hid (w.heap.size ≤ A) := Nat.le_of_eq hA
  rw [hA]
  clear hA hg
  obtain ⟨v0, v1, v2, v3, v4⟩ := HXA.out.cells
  have vf := HXA.out.f
  obtain ⟨u0, u1, u2, u3, u4⟩ := HXB.out.cells
  have uf := HXB.out.f
  go_wp2
  have hB : VX (A + 1) 0 0 0 ⟨#[]⟩ ⟨#[]⟩ ((w1.setCell ⟨A, 3, none⟩ (.string a4)).setCell ⟨A, 4, none⟩ (.string ⟨#[]⟩)) := (HXB.out.other (by omega) _ _).other (by omega) _ _
  refine bodyPost_ret (results_cell_row rfl _ _ (A + 1) 35 #[.int .i64 a1, .int .i64 a2, .int .i64 a3, .string a4, .string ⟨#[]⟩] (0, 0) _ rfl (put5_row hB a1 a2 a3 a4 ⟨#[]⟩) Tryz.underlying35 rfl (by kernel_rfl)) rfl ⟨rfl, ?_⟩
  have h0 := HWA.out
  exact put5_gb0 (gb_new0 (gb_new0 HG.out h0 _ _) h0 _ _) (by omega) a1 a2 a3 a4 ⟨#[]⟩
end Go.Proofs.YtkafaocbeankiaaGreatDoor
