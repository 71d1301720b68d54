import Derived.Test.YtegapdmbpkfpmaaGreatDoorM10
import Derived.Test.YtegapdmbpkfpmaaGreatDoorM02
import Derived.Test.YtegapdmbpkfpmaaGreatDoorM05
/-
  spans of the law, walked.
-/
namespace Go.Proofs.YtegapdmbpkfpmaaGreatDoor
open Go.RowKit
set_option linter.unusedVariables false

theorem infoSp : (Tryz.prog.info? 37).map (fun i => (i.zero, i.size, i.bytes)) = some (some (.agg #[.int .i64 0, .int .i64 0, .int .i64 0, .string ⟨#[]⟩, .string ⟨#[]⟩, .int .i64 0, .int .i64 0, .int .i64 0, .string ⟨#[]⟩, .string ⟨#[]⟩, .bool false]), 11, 120) := by kernel_rfl
theorem own_keep {w w' : World} {base : Nat} {e : TypeId} {size : Nat} {v : Value} {n : Nat} {xs : List Value} (h : w.ownsRow base e size v n xs) (hg : w.grownBy w' none) : w'.ownsRow base e size v n xs :=
  h.kept hg (by cases v.ownBlock <;> simp)
theorem news_one (s : Sp) : ∀ u ∈ spC s, u.oneCell' = true := by
  intro u hu
  simp only [spC, List.mem_cons, List.not_mem_nil, or_false] at hu
  rcases hu with rfl | rfl | rfl | rfl | rfl | rfl | rfl | rfl | rfl | rfl | rfl <;> rfl
theorem cell_lt {w : World} {a : Addr} {v : Value} (h : w.cell? a = some v) : a.block < w.heap.size := by
  unfold World.cell? at h
  cases hb : w.heap[a.block]? with
  | none => rw [hb] at h; simp at h
  | some o => exact (Array.getElem?_eq_some_iff.1 hb).1
theorem below_gbn {B : Nat} {a w w' : World} (h : Below B a w) (hB : B ≤ w.heap.size) (hg : w.grownBy w' none) : Below B a w' :=
  ⟨hg.os.trans h.os, hg.tape.trans h.tape, hg.output.trans h.output, Nat.le_trans h.size hg.size, fun k hk => (hg.block k (Nat.lt_of_lt_of_le hk hB) (by simp)).trans (h.block k hk)⟩
end Go.Proofs.YtegapdmbpkfpmaaGreatDoor

/-
  SpanHolds, walked.
-/
namespace Go.Proofs.YtegapdmbpkfpmaaGreatDoor
open Go.RowKit
set_option linter.unusedVariables false

/-- the slice holds the spans -/
def SpS (w : World) (sl : Value) (L : List Sp) : Prop := (sl = .slice none 0 0 ∧ L = []) ∨ ∃ a cap, sl = .slice (some a) L.length cap ∧ L.length ≤ cap ∧ SpAt w a L
theorem SpS.grow {w w' : World} {sl : Value} {L : List Sp} (h : SpS w sl L) (hg : w.grownBy w' none) : SpS w' sl L := by
  rcases h with h | ⟨a, cap, h1, h2, h3⟩
  · exact Or.inl h
  · exact Or.inr ⟨a, cap, h1, h2, h3.grow hg⟩
theorem flat_get (L : List Sp) : ∀ (i : Nat) (hi : i < L.length) (k : Nat) (v : Value), (spC L[i])[k]? = some v → (L.flatMap spC)[i * 11 + k]? = some v := by
  induction L with
  | nil => intro i hi; simp at hi
  | cons s L ih =>
    intro i hi k v h
    rw [List.flatMap_cons]
    have hl : (spC s).length = 11 := rfl
    cases i with
    | zero =>
      simp only [List.getElem_cons_zero] at h
      have hk : k < (spC s).length := (List.getElem?_eq_some_iff.1 h).1
      rw [Nat.zero_mul, Nat.zero_add, List.getElem?_append_left hk]
      exact h
    | succ i =>
      simp only [List.getElem_cons_succ] at h
      rw [List.getElem?_append_right (by rw [hl]; omega), hl, show (i + 1) * 11 + k - 11 = i * 11 + k by omega]
      exact ih i (by simpa using hi) k v h
theorem sps_own {w : World} {base : Nat} {v : Value} {L : List Sp} (h : w.ownsRow base 37 11 v L.length (L.flatMap spC)) : SpS w v L := by
  rcases h.2 with ⟨h1, h2⟩ | ⟨g, cap, cur, h1, hb, hg, hn, hm, hs, ht⟩
  · exact Or.inl ⟨h1, List.length_eq_zero_iff.1 h2⟩
  · refine Or.inr ⟨⟨g, 0, none⟩, cap, h1, hn, fun i hi => elt_of_cells fun k u hu => ?_⟩
    have := flat_get L i hi k u hu
    exact h.cells (g := g) (by rw [h1]; rfl) (i * 11 + k) u this

theorem cSoundP (sl : Value) (L : List Sp) (w : World) (h : SpS w sl L) (hL : L.length ≤ 1048576) (hsz : ∀ s ∈ L, smallS s) :
    Calls Tryz.prog 81 #[sl] w fun e w' => e = .returned (.bool (L.all soundS)) ∧ w.grownBy w' none := by
  rcases h with ⟨rfl, rfl⟩ | ⟨a, cap, rfl, h2, h3⟩
  · exact psound_nil w
  · exact psound_at a cap L w (by omega) h2 h3 hsz
end Go.Proofs.YtegapdmbpkfpmaaGreatDoor

/-
  Sweeping over edges, and telling bound by bound: one list.
-/
namespace Go.Proofs.YtegapdmbpkfpmaaGreatDoor
set_option linter.unusedVariables false

/-! ### the order, in small words -/
theorem v_self (a : V) : verC a a = 0 := good_ver.self a
theorem v_anti (a b : V) : verC b a = - verC a b := good_ver.anti a b
theorem v_le_trans {a b d : V} (h1 : verC a b ≤ 0) (h2 : verC b d ≤ 0) : verC a d ≤ 0 := (good_ver.trans a b d h1 h2).1
theorem v_lt_le {a b d : V} (h1 : verC a b < 0) (h2 : verC b d ≤ 0) : verC a d < 0 := by
  have h := good_ver.trans a b d (by omega) h2
  have : verC a d ≠ 0 := fun e => by have := h.2.2 e; omega
  omega
theorem v_le_lt {a b d : V} (h1 : verC a b ≤ 0) (h2 : verC b d < 0) : verC a d < 0 := by
  have h := good_ver.trans a b d h1 (by omega)
  have : verC a d ≠ 0 := fun e => by have := h.2.2 e; omega
  omega
theorem v_lt_trans {a b d : V} (h1 : verC a b < 0) (h2 : verC b d < 0) : verC a d < 0 := v_lt_le h1 (by omega)

/-! ### toggles -/
/-- where h turns, along a list -/
def tog (h : V → Bool) : Bool → List V → List V
  | _, [] => []
  | on, p :: ps => if h p = on then tog h on ps else p :: tog h (h p) ps

def Rising (l : List V) : Prop := l.Pairwise fun a b => verC a b < 0

end Go.Proofs.YtegapdmbpkfpmaaGreatDoor

/-
  The sweep's turns are the turns along its places.
-/
namespace Go.Proofs.YtegapdmbpkfpmaaGreatDoor
set_option linter.unusedVariables false

/-- an edge -/
structure Ed where
  at_ : V
  l : Nat
  d : Int
def upd (b : Nat → Int) (l : Nat) (d : Int) : Nat → Int := fun j => if j = l then b j + d else b j
/-- the steps of list j, in all -/
def tot : List Ed → Nat → Int
  | [], _ => 0
  | e :: r, j => (if j = e.l then e.d else 0) + tot r j
/-- the steps of list j up to x -/
def sumB : List Ed → Nat → V → Int
  | [], _, _ => 0
  | e :: r, j, x => (if j = e.l ∧ verC e.at_ x ≤ 0 then e.d else 0) + sumB r j x
def nextSame (e : Ed) : List Ed → Bool
  | [] => false
  | e' :: _ => decide (verC e.at_ e'.at_ = 0)
def swT (wt : (Nat → Int) → Bool) : (Nat → Int) → Bool → List Ed → List V
  | _, _, [] => []
  | b, on, e :: r =>
    if nextSame e r = true then swT wt (upd b e.l e.d) on r
    else if wt (upd b e.l e.d) = on then swT wt (upd b e.l e.d) on r
    else e.at_ :: swT wt (upd b e.l e.d) (wt (upd b e.l e.d)) r
/-- the places of a list of edges, each once -/
def poss : List Ed → List V
  | [] => []
  | e :: r => if nextSame e r = true then poss r else e.at_ :: poss r
def SortedE (E : List Ed) : Prop := E.Pairwise fun a b => verC a.at_ b.at_ ≤ 0

theorem tot_app (A B : List Ed) (j : Nat) : tot (A ++ B) j = tot A j + tot B j := by
  induction A with
  | nil => simp [tot]
  | cons e A ih => simp only [List.cons_append, tot, ih]; omega
theorem sumB_app (A B : List Ed) (j : Nat) (x : V) : sumB (A ++ B) j x = sumB A j x + sumB B j x := by
  induction A with
  | nil => simp [sumB]
  | cons e A ih => simp only [List.cons_append, sumB, ih]; omega
theorem sumB_all (A : List Ed) (j : Nat) (x : V) (h : ∀ e ∈ A, verC e.at_ x ≤ 0) : sumB A j x = tot A j := by
  induction A with
  | nil => rfl
  | cons e A ih =>
    have he := h e (by simp)
    simp only [sumB, tot, ih (fun e' h' => h e' (by simp [h'])), he, and_true]
theorem sumB_none (A : List Ed) (j : Nat) (x : V) (h : ∀ e ∈ A, ¬ verC e.at_ x ≤ 0) : sumB A j x = 0 := by
  induction A with
  | nil => rfl
  | cons e A ih =>
    have he := h e (by simp)
    simp only [sumB, ih (fun e' h' => h e' (by simp [h'])), he, and_false, if_false]
    omega
theorem sumB_congr (A : List Ed) (j : Nat) (x y : V) (h : ∀ e ∈ A, verC e.at_ x ≤ 0 ↔ verC e.at_ y ≤ 0) : sumB A j x = sumB A j y := by
  induction A with
  | nil => rfl
  | cons e A ih =>
    have he := h e (by simp)
    simp only [sumB, ih (fun e' h' => h e' (by simp [h'])), he]

theorem behind_all {e : Ed} {r : List Ed} (hs : SortedE (e :: r)) (hn : ¬ nextSame e r = true) : ∀ e' ∈ r, verC e.at_ e'.at_ < 0 := by
  cases r with
  | nil => intro e' h; simp at h
  | cons f r =>
    have h1 := (List.pairwise_cons.1 hs).1
    have h2 := (List.pairwise_cons.1 (List.pairwise_cons.1 hs).2).1
    have hf : verC e.at_ f.at_ < 0 := by
      have a1 := h1 f (by simp)
      have a2 : verC e.at_ f.at_ ≠ 0 := fun e0 => hn (by simp [nextSame, e0])
      omega
    intro e' he'
    rcases List.mem_cons.1 he' with rfl | he'
    · exact hf
    · exact v_lt_le hf (h2 e' he')

theorem swT_tog (wt : (Nat → Int) → Bool) (E : List Ed) (h : V → Bool) (hh : ∀ x, h x = wt (fun j => sumB E j x)) (hs : SortedE E) :
    ∀ (r pre : List Ed) (on : Bool), E = pre ++ r → swT wt (fun j => tot pre j) on r = tog h on (poss r)
  | [], pre, on, hE => rfl
  | e :: r, pre, on, hE => by
    have hE' : E = (pre ++ [e]) ++ r := by rw [hE]; simp
    have hb : upd (fun j => tot pre j) e.l e.d = fun j => tot (pre ++ [e]) j := by
      funext j
      rw [tot_app]
      unfold upd
      by_cases hj : j = e.l
      · simp [tot, hj]
      · simp [tot, hj]
    have ih := fun on => swT_tog wt E h hh hs r (pre ++ [e]) on hE'
    unfold swT poss
    rw [hb]
    by_cases hn : nextSame e r = true
    · rw [if_pos hn, if_pos hn]; exact ih on
    · rw [if_neg hn, if_neg hn]
      have hw : wt (fun j => tot (pre ++ [e]) j) = h e.at_ := by
        rw [hh]
        congr 1
        funext j
        rw [hE', sumB_app]
        have hsr : SortedE (e :: r) := by rw [hE] at hs; exact (List.pairwise_append.1 hs).2.1
        have hpre : ∀ e' ∈ pre ++ [e], verC e'.at_ e.at_ ≤ 0 := by
          intro e' he'
          rcases List.mem_append.1 he' with h1 | h1
          · rw [hE] at hs; exact (List.pairwise_append.1 hs).2.2 e' h1 e (by simp)
          · simp at h1; rw [h1, v_self]; omega
        have hr := behind_all hsr hn
        rw [sumB_all _ j _ hpre, sumB_none r j _ (fun e' he' => by have := hr e' he'; have := v_anti e.at_ e'.at_; omega)]
        omega
      rw [hw]
      unfold tog
      by_cases ho : h e.at_ = on
      · rw [if_pos ho, if_pos ho]; exact ih on
      · rw [if_neg ho, if_neg ho, ih]

theorem poss_mem (E : List Ed) (hs : SortedE E) : (∀ p ∈ poss E, ∃ e ∈ E, e.at_ = p) ∧ (∀ e ∈ E, ∃ p ∈ poss E, verC e.at_ p = 0) := by
  induction E with
  | nil => exact ⟨by simp [poss], by simp⟩
  | cons e r ih =>
    obtain ⟨i1, i2⟩ := ih (List.pairwise_cons.1 hs).2
    unfold poss
    by_cases hn : nextSame e r = true
    · rw [if_pos hn]
      refine ⟨fun p hp => ?_, fun e' he' => ?_⟩
      · obtain ⟨e', h1, h2⟩ := i1 p hp; exact ⟨e', by simp [h1], h2⟩
      · rcases List.mem_cons.1 he' with rfl | he'
        · cases r with
          | nil => simp [nextSame] at hn
          | cons f r =>
            have hf : verC e'.at_ f.at_ = 0 := by simpa [nextSame] using hn
            obtain ⟨p, hp, h0⟩ := i2 f (by simp)
            exact ⟨p, hp, by have := (good_ver.trans e'.at_ f.at_ p (by omega) (by omega)).2.1 ⟨hf, h0⟩; exact this⟩
        · exact i2 e' he'
    · rw [if_neg hn]
      refine ⟨fun p hp => ?_, fun e' he' => ?_⟩
      · rcases List.mem_cons.1 hp with rfl | hp
        · exact ⟨e, by simp, rfl⟩
        · obtain ⟨e', h1, h2⟩ := i1 p hp; exact ⟨e', by simp [h1], h2⟩
      · rcases List.mem_cons.1 he' with rfl | he'
        · exact ⟨e'.at_, by simp, v_self _⟩
        · obtain ⟨p, hp, h0⟩ := i2 e' he'; exact ⟨p, by simp [hp], h0⟩
theorem poss_rising (E : List Ed) (hs : SortedE E) : Rising (poss E) := by
  induction E with
  | nil => exact List.Pairwise.nil
  | cons e r ih =>
    have hr := (List.pairwise_cons.1 hs).2
    unfold poss
    by_cases hn : nextSame e r = true
    · rw [if_pos hn]; exact ih hr
    · rw [if_neg hn]
      refine List.pairwise_cons.2 ⟨fun p hp => ?_, ih hr⟩
      obtain ⟨e', h1, rfl⟩ := (poss_mem r hr).1 p hp
      exact behind_all hs hn e' h1
end Go.Proofs.YtegapdmbpkfpmaaGreatDoor

/-
  What a sweep tells is what the bounds tell.
-/
namespace Go.Proofs.YtegapdmbpkfpmaaGreatDoor
set_option linter.unusedVariables false

/-- a span, its Builds left out -/
structure Sg where
  fr : V
  to_ : V
  op : Bool
def hasG (s : Sg) (x : V) : Bool := decide (verC s.fr x ≤ 0) && (s.op || decide (verC x s.to_ < 0))
def holdsG (l : List Sg) (x : V) : Bool := l.any fun s => hasG s x
/-- the edges of a span of list k -/
def edS (k : Nat) (s : Sg) : List Ed := if s.op = true then [⟨s.fr, k, 1⟩] else if verC s.fr s.to_ < 0 then [⟨s.fr, k, 1⟩, ⟨s.to_, k, -1⟩] else []
def edL : Nat → List (List Sg) → List Ed
  | _, [] => []
  | k, l :: Ls => l.flatMap (edS k) ++ edL (k + 1) Ls
def cnt (l : List Sg) (x : V) : Int := (l.countP fun s => hasG s x : Nat)

theorem sum_span (k j : Nat) (s : Sg) (x : V) : sumB (edS k s) j x = if j = k then (if hasG s x = true then 1 else 0) else 0 := by
  unfold edS hasG
  by_cases ho : s.op = true
  · rw [if_pos ho, ho]
    simp only [sumB, Bool.true_or, Bool.and_true, decide_eq_true_eq]
    by_cases hj : j = k <;> simp [hj]
  · have ho' : s.op = false := by simpa using ho
    rw [if_neg ho, ho']
    simp only [Bool.false_or, Bool.and_eq_true, decide_eq_true_eq]
    have ha := v_anti x s.to_
    by_cases hlt : verC s.fr s.to_ < 0
    · rw [if_pos hlt]
      simp only [sumB]
      by_cases hj : j = k
      · simp only [hj, true_and, if_true]
        by_cases h1 : verC s.fr x ≤ 0
        · by_cases h2 : verC x s.to_ < 0
          · have h3 : ¬ verC s.to_ x ≤ 0 := by omega
            simp [h1, h2, h3]
          · have h3 : verC s.to_ x ≤ 0 := by omega
            simp [h1, h2, h3]
        · have h3 : ¬ verC s.to_ x ≤ 0 := fun h => h1 (by have := v_lt_le hlt h; omega)
          simp [h1, h3]
      · simp [hj]
    · rw [if_neg hlt]
      simp only [sumB]
      have : ¬ (verC s.fr x ≤ 0 ∧ verC x s.to_ < 0) := fun h => hlt (v_le_lt h.1 h.2)
      rw [if_neg this]; simp
theorem sum_list (k j : Nat) (l : List Sg) (x : V) : sumB (l.flatMap (edS k)) j x = if j = k then cnt l x else 0 := by
  induction l with
  | nil => simp [sumB, cnt]
  | cons s l ih =>
    rw [List.flatMap_cons, sumB_app, ih, sum_span]
    unfold cnt
    rw [List.countP_cons]
    by_cases hj : j = k
    · simp only [hj, if_true]
      by_cases h : hasG s x = true <;> simp [h]; omega
    · simp [hj]
theorem sum_lists (x : V) : ∀ (Ls : List (List Sg)) (k j : Nat), sumB (edL k Ls) j x = if k ≤ j then (match Ls[j - k]? with | some l => cnt l x | none => 0) else 0
  | [], k, j => by simp [edL, sumB]
  | l :: Ls, k, j => by
    rw [edL, sumB_app, sum_list, sum_lists x Ls (k + 1) j]
    by_cases hk : k ≤ j
    · by_cases hj : j = k
      · subst hj
        rw [if_pos rfl, if_neg (show ¬ j + 1 ≤ j by omega), if_pos hk]
        simp
      · have h1 : k + 1 ≤ j := by omega
        rw [if_neg hj, if_pos h1, if_pos hk, show j - k = (j - (k + 1)) + 1 by omega, List.getElem?_cons_succ]
        omega
    · have h1 : ¬ k + 1 ≤ j := by omega
      rw [if_neg (by omega), if_neg h1, if_neg hk]; rfl

/-- how many of n lists have begun -/
def having (n : Nat) (b : Nat → Int) : Int := ((List.range n).map fun j => min (b j) 1).sum
theorem sumB_perm {A B : List Ed} (h : A.Perm B) (j : Nat) (x : V) : sumB A j x = sumB B j x := by
  induction h with
  | nil => rfl
  | cons e _ ih => simp only [sumB, ih]
  | swap a b l => simp only [sumB]; omega
  | trans _ _ ih1 ih2 => exact ih1.trans ih2
theorem cnt_min (l : List Sg) (x : V) : min (cnt l x) 1 = if holdsG l x = true then 1 else 0 := by
  unfold cnt holdsG
  by_cases h : (l.any fun s => hasG s x) = true
  · rw [if_pos h]
    obtain ⟨s, hs, hh⟩ := List.any_eq_true.1 h
    have : 0 < l.countP fun s => hasG s x := List.countP_pos_iff.2 ⟨s, hs, hh⟩
    omega
  · rw [if_neg h]
    have : l.countP (fun s => hasG s x) = 0 := by
      rw [List.countP_eq_zero]
      intro s hs hh
      exact h (List.any_eq_true.2 ⟨s, hs, hh⟩)
    omega
/-- how many of the lists have x -/
def haveN (Ls : List (List Sg)) (x : V) : Int := (Ls.map fun l => if holdsG l x = true then (1 : Int) else 0).sum
theorem having_lists (Ls : List (List Sg)) (E : List Ed) (hE : E.Perm (edL 0 Ls)) (x : V) : having Ls.length (fun j => sumB E j x) = haveN Ls x := by
  unfold having haveN
  have : (List.range Ls.length).map (fun j => min (sumB E j x) 1) = Ls.map fun l => if holdsG l x = true then (1 : Int) else 0 := by
    apply List.ext_getElem
    · simp
    · intro i h1 h2
      have hi : i < Ls.length := by simpa using h2
      rw [List.getElem_map, List.getElem_range, List.getElem_map, sumB_perm hE, sum_lists, if_pos (Nat.zero_le _)]
      simp only [Nat.sub_zero, List.getElem?_eq_getElem hi]
      exact cnt_min _ _
  rw [this]

end Go.Proofs.YtegapdmbpkfpmaaGreatDoor

/-
  The small functions of the sweep, walked.
-/
namespace Go.Proofs.YtegapdmbpkfpmaaGreatDoor
open Go.RowKit
set_option linter.unusedVariables false

set_option maxHeartbeats 400000 in
theorem some_any (x y : Int) (w : World) : Calls Tryz.prog 50 #[.int .i64 x, .int .i64 y] w fun e w' => e = .returned (.bool (decide (0 < x))) ∧ w' = w := by
  go_enter Tryz.func50, Tryz.ntmps50
  go_wp2
  go_ret
  exact ⟨rfl, rfl⟩
set_option maxHeartbeats 400000 in
theorem every_any (x y : Int) (w : World) : Calls Tryz.prog 51 #[.int .i64 x, .int .i64 y] w fun e w' => e = .returned (.bool (decide (x = y))) ∧ w' = w := by
  go_enter Tryz.func51, Tryz.ntmps51
  go_wp2
  go_ret
  exact ⟨ret_bool (by rw [Bool.eq_iff_iff]; simp), rfl⟩
set_option maxHeartbeats 400000 in
theorem begin_any (g o : Nat) (x d : Int) (w : World) (h : w.cell? ⟨g, o, none⟩ = some (.int .i64 x)) (hf : w.frozen? ⟨g, o, none⟩ = false) (h1 : -4611686018427387904 ≤ x ∧ x ≤ 4611686018427387904) (h2 : -1 ≤ d ∧ d ≤ 1) :
    Calls Tryz.prog 83 #[.pointer (some ⟨g, o, none⟩), .int .i64 d] w fun e w' => e = .returned (.int .i64 (min (x + d) 1 - min x 1)) ∧ w' = w.setCell ⟨g, o, none⟩ (.int .i64 (x + d)) := by
  have r1 : IntKind.i64.wrap (x + d) = x + d := by rw [IntKind.wrap_i64]; omega
  have r2 : IntKind.i64.wrap (min (x + d) 1 - min x 1) = min (x + d) 1 - min x 1 := by rw [IntKind.wrap_i64]; omega
  go_enter Tryz.func83, Tryz.ntmps83
  go_wp2
  go_ret
  exact ⟨rfl, rfl⟩
set_option maxHeartbeats 400000 in
theorem bound_any (a1 a2 a3 : Int) (a4 a5 : ByteArray) (w : World) (hs : a4.size ≤ 281474976710656) :
    Calls Tryz.prog 84 #[.agg #[.int .i64 a1, .int .i64 a2, .int .i64 a3, .string a4, .string a5]] w fun e w' => e = .returned (.agg #[.int .i64 a1, .int .i64 a2, .int .i64 a3, .string a4, .string ⟨#[]⟩]) ∧ w.grownBy w' none := by
  have CC : Hid (∀ w, Calls Tryz.prog 105 #[.string a4] w fun e w' => e = .returned (.string a4) ∧ w.grownBy w' none) := fun w => clone_any a4 w hs
  clear hs
  go_enter Tryz.func84, Tryz.ntmps84
  go_wp2_with (first | (go_at_call 105; refine (CC.out _).mono ?_))
  rintro e w1 ⟨rfl, hg⟩
  obtain ⟨A, hA⟩ : ∃ A, w.heap.size = A := ⟨_, rfl⟩
  have HXA : Hid (VX A a1 a2 a3 a4 a5 w1) := by
    show w1.heap[A]? = _
    rw [hg.block A (by rw [← hA]; simp; omega) (by simp), ← hA, Lib.alloc_old _ _ _ (by simp)]
    exact heap_alloc_new w _
  have HXB : Hid (VX (A + 1) 0 0 0 ⟨#[]⟩ ⟨#[]⟩ w1) := by
    show w1.heap[A + 1]? = _
    rw [hg.block (A + 1) (by rw [← hA]; simp) (by simp)]
    have := heap_alloc_new (w.alloc (.cells #[.int .i64 a1, .int .i64 a2, .int .i64 a3, .string a4, .string a5] 35)) (.cells #[.int .i64 0, .int .i64 0, .int .i64 0, .string ⟨#[]⟩, .string ⟨#[]⟩] 35)
    rw [← hA]
    simpa using this
  have HG : Hid (w.grownBy w1 none) := gb_trans (gb_alloc (gb_alloc (gb_refl w none) _) _) hg
  have HWA : Hid (w.heap.size ≤ A) := Nat.le_of_eq hA
  rw [hA]
  clear hA hg
  obtain ⟨v0, v1, v2, v3, v4⟩ := HXA.out.cells
  have vf := HXA.out.f
  obtain ⟨u0, u1, u2, u3, u4⟩ := HXB.out.cells
  have uf := HXB.out.f
  go_wp2
  have hB : VX (A + 1) 0 0 0 ⟨#[]⟩ ⟨#[]⟩ ((w1.setCell ⟨A, 3, none⟩ (.string a4)).setCell ⟨A, 4, none⟩ (.string ⟨#[]⟩)) := (HXB.out.other (by omega) _ _).other (by omega) _ _
  refine bodyPost_ret (results_cell_row rfl _ _ (A + 1) 35 #[.int .i64 a1, .int .i64 a2, .int .i64 a3, .string a4, .string ⟨#[]⟩] (0, 0) _ rfl (put5_row hB a1 a2 a3 a4 ⟨#[]⟩) Tryz.underlying35 rfl (by kernel_rfl)) rfl ⟨rfl, ?_⟩
  have h0 := HWA.out
  exact put5_gb0 (gb_new0 (gb_new0 HG.out h0 _ _) h0 _ _) (by omega) a1 a2 a3 a4 ⟨#[]⟩
end Go.Proofs.YtegapdmbpkfpmaaGreatDoor
