import Derived.Test.YtegapdmbpkfpmaaGreatDoorM13
import Derived.Test.YtegapdmbpkfpmaaGreatDoorM14
import Derived.Test.YtegapdmbpkfpmaaGreatDoorM16
import Derived.Test.YtegapdmbpkfpmaaGreatDoorM11
/-
  Normal, Meet and Join, walked.
-/
namespace Go.Proofs.YtegapdmbpkfpmaaGreatDoor
open Go.RowKit
set_option linter.unusedVariables false

theorem sps_slice {w : World} {sl : Value} {L : List Sp} (h : SpS w sl L) : ∃ o n c, sl = .slice o n c := by
  rcases h with ⟨rfl, _⟩ | ⟨a, cap, rfl, _⟩
  · exact ⟨_, _, _, rfl⟩
  · exact ⟨_, _, _, rfl⟩
theorem SweepPost.from {ch : Int → Bool} {Ls : List (List Sp)} {w w1 : World} {e : Ending} {w' : World} (hg : w.grownBy w1 none) (h : SweepPost ch Ls w1 e w') : SweepPost ch Ls w e w' := by
  refine ⟨gb_trans hg h.1, ?_⟩
  rcases h.2 with h1 | ⟨h1, E, vs, h2, h3, h4, h5, h6⟩
  · exact Or.inl h1
  · exact Or.inr ⟨h1, E, vs, h2, h3, h4, h5, own_down h6 hg.size⟩
theorem SweepPost.two {ch : Int → Bool} {Ls : List (List Sp)} {w : World} {e : Ending} {w' : World} (h : SweepPost ch Ls w e w') : ∃ o n c r, e = .returned (.tuple #[.slice o n c, .int .i64 r]) := by
  rcases h.2 with ⟨_, rfl⟩ | ⟨_, E, vs, _, _, rfl, hs, _⟩
  · exact ⟨_, _, _, _, rfl⟩
  · obtain ⟨o, n, c, rfl⟩ := sps_slice hs
    exact ⟨_, _, _, _, rfl⟩

set_option maxRecDepth 100000 in
set_option maxHeartbeats 1600000 in
theorem normal_any (sl : Value) (L : List Sp) (w : World) (h : SpS w sl L) (hL : L.length ≤ 1048576) (hsz : ∀ s ∈ L, smallS s) :
    Calls Tryz.prog 33 #[sl] w (SweepPost (fun x => decide (0 < x)) [L] w) := by
  have HA : Hid (SpS w sl L) := h
  have CS : Hid (∀ a w, Lists w a [L] → Calls Tryz.prog 49 #[.func (.func 50) #[] #[], .slice (some a) 1 1] w (SweepPost (fun x => decide (0 < x)) [L] w)) := fun a w h => sweep_some sortSays a 1 1 [L] w rfl (by omega) (by omega) h (by intro l hl; simp at hl; subst hl; exact ⟨hL, hsz⟩)
  obtain ⟨o, n, c, rfl⟩ := sps_slice h
  clear h hL hsz
  go_enter Tryz.func33, Tryz.ntmps33
  go_wp2_with (first | (go_at_call 49; refine (CS.out _ _ ?_).mono ?_))
  · have hg := gb_alloc (gb_refl w none) (.cells #[.slice o n c] 22)
    intro j hj
    have hj' : j = 0 := by simp at hj; omega
    subst hj'
    exact ⟨.slice o n c, by rw [show (⟨w.heap.size, 0, none⟩ : Addr).add 0 = ⟨w.heap.size, 0, none⟩ from add_zero_off _ _, Lib.cell_of_heap (heap_alloc_new w _)]; rfl, HA.out.grow hg⟩
  intro e w1 hp
  have HP := SweepPost.from (gb_alloc (gb_refl w none) _) hp
  clear hp
  obtain ⟨o2, n2, c2, r2, rfl⟩ := HP.two
  have HQ : Hid (SweepPost (fun x => decide (0 < x)) [L] w (.returned (.tuple #[.slice o2 n2 c2, .int .i64 r2])) w1) := HP
  clear HP
  go_wp2
  exact bodyPost_ret (results_tmp2 (t := 2) (u := 3) rfl _ _ _) rfl HQ.out

set_option maxRecDepth 100000 in
set_option maxHeartbeats 1600000 in
theorem meet_any (sl sm : Value) (L M : List Sp) (w : World) (h : SpS w sl L) (h' : SpS w sm M) (hL : L.length ≤ 1048576) (hsz : ∀ s ∈ L, smallS s) (hM : M.length ≤ 1048576) (hsm : ∀ s ∈ M, smallS s) :
    Calls Tryz.prog 26 #[sl, sm] w (SweepPost (fun x => decide (x = ((2 : Nat) : Int))) [L, M] w) := by
  have HA : Hid (SpS w sl L) := h
  have HB : Hid (SpS w sm M) := h'
  have CS : Hid (∀ a w, Lists w a [L, M] → Calls Tryz.prog 49 #[.func (.func 51) #[] #[], .slice (some a) 2 2] w (SweepPost (fun x => decide (x = ((2 : Nat) : Int))) [L, M] w)) := fun a w h => sweep_every sortSays a 2 2 [L, M] w rfl (by omega) (by omega) h (by intro l hl; simp at hl; rcases hl with rfl | rfl <;> first | exact ⟨hL, hsz⟩ | exact ⟨hM, hsm⟩)
  obtain ⟨o, n, c, rfl⟩ := sps_slice h
  obtain ⟨o', n', c', rfl⟩ := sps_slice h'
  clear h'
  clear hM hsm
  clear h hL hsz
  go_enter Tryz.func26, Tryz.ntmps26
  go_wp2_with (first | (go_at_call 49; refine (CS.out _ _ ?_).mono ?_))
  · have hg := gb_alloc (gb_refl w none) (.cells #[.slice o n c, .slice o' n' c'] 22)
    intro j hj
    have hj' : j = 0 ∨ j = 1 := by simp at hj; omega
    rcases hj' with rfl | rfl
    · exact ⟨.slice o n c, by rw [show (⟨w.heap.size, 0, none⟩ : Addr).add 0 = ⟨w.heap.size, 0, none⟩ from add_zero_off _ _, Lib.cell_of_heap (heap_alloc_new w _)]; rfl, HA.out.grow hg⟩
    · exact ⟨.slice o' n' c', by rw [show (⟨w.heap.size, 0, none⟩ : Addr).add 1 = ⟨w.heap.size, 1, none⟩ from add_zero_off _ _, Lib.cell_of_heap (heap_alloc_new w _)]; rfl, HB.out.grow hg⟩
  intro e w1 hp
  have HP := SweepPost.from (gb_alloc (gb_refl w none) _) hp
  clear hp
  obtain ⟨o2, n2, c2, r2, rfl⟩ := HP.two
  have HQ : Hid (SweepPost (fun x => decide (x = ((2 : Nat) : Int))) [L, M] w (.returned (.tuple #[.slice o2 n2 c2, .int .i64 r2])) w1) := HP
  clear HP
  go_wp2
  exact bodyPost_ret (results_tmp2 (t := 4) (u := 5) rfl _ _ _) rfl HQ.out

end Go.Proofs.YtegapdmbpkfpmaaGreatDoor

/-
  parts of the law, walked.
-/
namespace Go.Proofs.YtegapdmbpkfpmaaGreatDoor
open Go.RowKit
set_option linter.unusedVariables false

theorem cHoldsQ (sl : Value) (L : List Sp) (v1 v2 v3 : Int) (v4 v5 : ByteArray) (w : World) (h : SpS w sl L) (hL : L.length ≤ 4194304) (hsz : ∀ s ∈ L, smallS s) (hv : v4.size ≤ 1048576) :
    Calls Tryz.prog 21 #[sl, .agg #[.int .i64 v1, .int .i64 v2, .int .i64 v3, .string v4, .string v5]] w fun e w' => e = .returned (.bool (holdsL L ⟨v1, v2, v3, v4.data.toList⟩)) ∧ w.grownBy w' none := by
  rcases h with ⟨rfl, rfl⟩ | ⟨a, cap, rfl, h2, h3⟩
  · exact pholds_nil v1 v2 v3 v4 v5 w
  · exact pholds_at a cap L v1 v2 v3 v4 v5 w (by omega) h2 h3 hsz hv

end Go.Proofs.YtegapdmbpkfpmaaGreatDoor

/-
  Normal lists: what they have, and that they are told by what they have.
-/
namespace Go.Proofs.YtegapdmbpkfpmaaGreatDoor
set_option linter.unusedVariables false

theorem tog_sub_list (h : V → Bool) : ∀ (ps : List V) (on : Bool), (tog h on ps).Sublist ps
  | [], on => List.Sublist.slnil
  | p :: ps, on => by
    rw [tog]
    split
    · exact (tog_sub_list h ps on).cons _
    · exact (tog_sub_list h ps (h p)).cons_cons _

/-- how many turns lie at a version or ahead of it: odd? -/
def par : List V → V → Bool
  | [], _ => false
  | t :: r, x => decide (verC t x ≤ 0) ^^ par r x
theorem par_none (T : List V) (x : V) (h : ∀ t ∈ T, verC x t < 0) : par T x = false := by
  induction T with
  | nil => rfl
  | cons t r ih =>
    have h1 := h t (by simp)
    have h2 := v_anti x t
    rw [par, ih (fun t' ht' => h t' (by simp [ht'])), decide_eq_false (by omega)]
    rfl
theorem rising_tail {t : V} {r : List V} (h : Rising (t :: r)) : Rising r := (List.pairwise_cons.1 h).2
theorem rising_head {t : V} {r : List V} (h : Rising (t :: r)) : ∀ x ∈ r, verC t x < 0 := (List.pairwise_cons.1 h).1

theorem cFrom_spV (x y : V) (o : Bool) : cFrom (spV x y o) = x := by
  cases x; simp [cFrom, spV]
theorem cTo_spV (x y : V) (o : Bool) : cTo (spV x y o) = y := by
  cases y; simp [cTo, spV]
/-- a normal list has what its turns say -/
theorem outs_par : ∀ (T : List V), Rising T → ∀ x, holdsL (outs T) x = par T x
  | [], _, x => rfl
  | [a], _, x => by
    rw [outs, holdsL, List.any_cons, List.any_nil, hasS, cFrom_spV, par, par]
    show (decide (verC a x ≤ 0) && (true || _) || false) = _
    cases decide (verC a x ≤ 0) <;> rfl
  | a :: b :: r, h, x => by
    have hab : verC a b < 0 := rising_head h b (by simp)
    have hr := rising_tail h
    have ih := outs_par r (rising_tail hr) x
    unfold holdsL at ih
    rw [outs, holdsL, List.any_cons, ih, hasS, cFrom_spV, cTo_spV, par, par]
    show (decide (verC a x ≤ 0) && (false || decide (verC x b < 0)) || par r x) = _
    have a1 := v_anti x b
    by_cases hb : verC b x ≤ 0
    · have ha : verC a x ≤ 0 := v_le_trans (show verC a b ≤ 0 by omega) hb
      rw [decide_eq_true ha, decide_eq_true hb, decide_eq_false (by omega)]
      cases par r x <;> rfl
    · have hp : par r x = false := par_none r x fun t ht => v_lt_trans (show verC x b < 0 by omega) (rising_head hr t ht)
      rw [hp, decide_eq_false hb, decide_eq_true (show verC x b < 0 by omega)]
      cases decide (verC a x ≤ 0) <;> rfl

/-- a normal list, by its turns -/
def NF (N : List Sp) : Prop := ∃ T, N = outs T ∧ Rising T ∧ (∀ t ∈ T, okParts true t.pre = true ∧ t.pre.length ≤ 1048576) ∧ T.length ≤ 4194304
theorem NF.len {N : List Sp} (h : NF N) : N.length ≤ 4194304 := by
  obtain ⟨T, rfl, _, _, hl⟩ := h
  have : ∀ T : List V, (outs T).length ≤ T.length := by
    intro T
    induction T using outs.induct with
    | case1 => simp [outs]
    | case2 x => simp [outs]
    | case3 x y r ih => rw [outs, List.length_cons, List.length_cons, List.length_cons]; omega
  exact Nat.le_trans (this T) hl
theorem outs_mem : ∀ (T : List V) (s : Sp), s ∈ outs T → (∃ x ∈ T, s = spV x zeroV0 true) ∨ ∃ x ∈ T, ∃ y ∈ T, s = spV x y false
  | [], s, h => by simp [outs] at h
  | [a], s, h => by
    have e : s = spV a zeroV0 true := by simpa [outs] using h
    exact Or.inl ⟨a, by simp, e⟩
  | a :: b :: r, s, h => by
    rw [outs] at h
    rcases List.mem_cons.1 h with e | h
    · exact Or.inr ⟨a, by simp, b, by simp, e⟩
    · rcases outs_mem r s h with ⟨x, hx, e⟩ | ⟨x, hx, y, hy, e⟩
      · exact Or.inl ⟨x, by simp [hx], e⟩
      · exact Or.inr ⟨x, by simp [hx], y, by simp [hy], e⟩
theorem NF.small {N : List Sp} (h : NF N) : ∀ s ∈ N, smallS s := by
  obtain ⟨T, rfl, _, hp, hl⟩ := h
  have hsz : ∀ l : List UInt8, (⟨l.toArray⟩ : ByteArray).size = l.length := fun l => by simp [ByteArray.size]
  have h0 : (⟨#[]⟩ : ByteArray).size = 0 := rfl
  intro s hs
  rcases outs_mem T s hs with ⟨x, hx, rfl⟩ | ⟨x, hx, y, hy, rfl⟩
  · refine ⟨?_, ?_, ?_, ?_⟩
    · show (⟨x.pre.toArray⟩ : ByteArray).size ≤ _; rw [hsz]; exact (hp x hx).2
    · show (⟨#[]⟩ : ByteArray).size ≤ _; rw [h0]; omega
    · show (⟨zeroV0.pre.toArray⟩ : ByteArray).size ≤ _; rw [hsz]; show 0 ≤ _; omega
    · show (⟨#[]⟩ : ByteArray).size ≤ _; rw [h0]; omega
  · refine ⟨?_, ?_, ?_, ?_⟩
    · show (⟨x.pre.toArray⟩ : ByteArray).size ≤ _; rw [hsz]; exact (hp x hx).2
    · show (⟨#[]⟩ : ByteArray).size ≤ _; rw [h0]; omega
    · show (⟨y.pre.toArray⟩ : ByteArray).size ≤ _; rw [hsz]; exact (hp y hy).2
    · show (⟨#[]⟩ : ByteArray).size ≤ _; rw [h0]; omega
theorem er_ok (Ls : List (List Sp)) (h : Ls.all (·.all soundS) = true) : ∀ (k : Nat), ∀ e ∈ erL k Ls, okParts true (toEd e).at_.pre = true := by
  induction Ls with
  | nil => intro k e he; simp [erL] at he
  | cons l Ls ih =>
    intro k e he
    rw [List.all_cons, Bool.and_eq_true] at h
    rw [erL] at he
    rcases List.mem_append.1 he with he | he
    · obtain ⟨s, hs, he⟩ := List.mem_flatMap.1 he
      have hm := List.all_eq_true.1 h.1 s hs
      unfold soundS at hm
      rw [Bool.and_eq_true] at hm
      have hf : okParts true s.f4.data.toList = true := by
        have := hm.1
        unfold soundV vFrom at this
        simp only [Bool.and_eq_true] at this
        exact this.2.2.2.1
      unfold erS at he
      split at he
      · simp at he; rw [he]; exact hf
      · rename_i ho
        have ht : okParts true s.t4.data.toList = true := by
          have := hm.2
          rw [Bool.or_eq_true] at this
          rcases this with h | this
          · exact absurd h ho
          · unfold soundV vTo at this
            simp only [Bool.and_eq_true] at this
            exact this.2.2.2.1
        split at he
        · simp at he
          rcases he with rfl | rfl
          · exact hf
          · exact ht
        · simp at he
    · exact ih h.2 (k + 1) e he
end Go.Proofs.YtegapdmbpkfpmaaGreatDoor

/-
  What the answer of a sweep has; sound turns; lists in order.
-/
namespace Go.Proofs.YtegapdmbpkfpmaaGreatDoor
set_option linter.unusedVariables false

/-- what h says at the last place that is not behind x -/
def lastH (h : V → Bool) : Bool → List V → V → Bool
  | on, [], _ => on
  | on, d :: D, x => if verC d x ≤ 0 then lastH h (h d) D x else on
theorem par_tog (h : V → Bool) (x : V) : ∀ (D : List V) (on : Bool), Rising D → par (tog h on D) x = (on ^^ lastH h on D x)
  | [], on, _ => by simp [tog, par, lastH]
  | d :: D, on, hr => by
    have hD := rising_tail hr
    by_cases hd : verC d x ≤ 0
    · rw [lastH, if_pos hd, tog]
      split
      · rename_i e
        rw [par_tog h x D on hD, e]
      · rename_i e
        rw [par, decide_eq_true hd, par_tog h x D (h d) hD]
        cases hb : h d <;> cases on <;> first | (exact absurd hb e) | (cases lastH h _ D x <;> rfl)
    · rw [lastH, if_neg hd]
      have hx : verC x d < 0 := by have := v_anti x d; omega
      rw [par_none]
      · cases on <;> rfl
      · intro t ht
        rcases List.mem_cons.1 ((tog_sub_list h (d :: D) on).subset ht) with e | e
        · rw [e]; exact hx
        · exact v_lt_trans hx (rising_head hr t e)
theorem last_spec (h : V → Bool) (x : V) : ∀ (D : List V) (on : Bool), Rising D →
    ((∀ d ∈ D, verC x d < 0) ∧ lastH h on D x = on) ∨ ∃ z ∈ D, verC z x ≤ 0 ∧ (∀ p ∈ D, verC z p < 0 → verC x p < 0) ∧ lastH h on D x = h z
  | [], on, _ => Or.inl ⟨fun d hd => by simp at hd, rfl⟩
  | d :: D, on, hr => by
    have hD := rising_tail hr
    by_cases hd : verC d x ≤ 0
    · right
      rw [lastH, if_pos hd]
      rcases last_spec h x D (h d) hD with ⟨h1, h2⟩ | ⟨z, hz, h1, h2, h3⟩
      · refine ⟨d, by simp, hd, fun p hp hlt => ?_, h2⟩
        rcases List.mem_cons.1 hp with e | e
        · rw [e, v_self] at hlt; omega
        · exact h1 p e
      · refine ⟨z, by simp [hz], h1, fun p hp hlt => ?_, h3⟩
        rcases List.mem_cons.1 hp with e | e
        · rw [e] at hlt
          have := rising_head hr z hz
          have := v_anti d z
          omega
        · exact h2 p e hlt
    · left
      have hx : verC x d < 0 := by have := v_anti x d; omega
      rw [lastH, if_neg hd]
      refine ⟨fun p hp => ?_, rfl⟩
      rcases List.mem_cons.1 hp with e | e
      · rw [e]; exact hx
      · exact v_lt_trans hx (rising_head hr p e)

/-- the sweep's answer has what is wanted -/
theorem sweep_par (ch : Int → Bool) (h0 : ch 0 = false) (Ls : List (List Sg)) (E : List Ed) (hE : E.Perm (edL 0 Ls)) (hs : SortedE E) (x : V) :
    par (swT (fun b => ch (having Ls.length b)) (fun _ => 0) false E) x = ch (haveN Ls x) := by
  have e1 := swT_tog (fun b => ch (having Ls.length b)) E (fun x => ch (haveN Ls x)) (fun x => by simp only [having_lists Ls E hE]) hs E [] false rfl
  have e2 : (fun j => tot [] j) = (fun _ => (0 : Int)) := rfl
  rw [e2] at e1
  rw [e1, par_tog _ x _ _ (poss_rising E hs), Bool.false_xor]
  have hne : ∀ e ∈ E, ∃ p ∈ poss E, verC e.at_ p = 0 := (poss_mem E hs).2
  rcases last_spec (fun x => ch (haveN Ls x)) x (poss E) false (poss_rising E hs) with ⟨h1, h2⟩ | ⟨z, hz, h1, h2, h3⟩
  · rw [h2, ← having_lists Ls E hE]
    have : (fun j => sumB E j x) = fun _ => (0 : Int) := by
      funext j
      refine sumB_none E j x fun e he hle => ?_
      obtain ⟨p, hp, h0⟩ := hne e he
      have a1 := h1 p hp
      have a2 := v_anti e.at_ p
      have a3 := v_le_trans (show verC p e.at_ ≤ 0 by omega) hle
      have a4 := v_anti x p
      omega
    rw [this, having_zero, h0]
  · rw [h3]
    show ch (haveN Ls z) = _
    rw [← having_lists Ls E hE, ← having_lists Ls E hE]
    congr 2
    funext j
    refine sumB_congr E j z x fun e he => ?_
    obtain ⟨p, hp, h0⟩ := hne e he
    have a2 := v_anti e.at_ p
    by_cases hzp : verC z p < 0
    · have hxp := h2 p hp hzp
      constructor
      · intro h
        exfalso
        have a3 := v_le_trans (show verC p e.at_ ≤ 0 by omega) h
        have a4 := v_anti z p
        omega
      · intro h
        exfalso
        have a3 := v_le_trans (show verC p e.at_ ≤ 0 by omega) h
        have a4 := v_anti x p
        omega
    · have hpz : verC p z ≤ 0 := by have := v_anti z p; omega
      have hez : verC e.at_ z ≤ 0 := v_le_trans (show verC e.at_ p ≤ 0 by omega) hpz
      exact ⟨fun _ => v_le_trans hez h1, fun _ => hez⟩

theorem holdsG_map (l : List Sp) (x : V) : holdsG (l.map toSg) x = holdsL l x := by
  unfold holdsG holdsL
  rw [List.any_map]
  rfl
theorem have_one (L : List Sp) (x : V) : decide (0 < haveN [L.map toSg] x) = holdsL L x := by
  unfold haveN
  simp only [List.map_cons, List.map_nil, List.sum_cons, List.sum_nil, holdsG_map]
  cases holdsL L x <;> simp
theorem have_all (L M : List Sp) (x : V) : decide (haveN [L.map toSg, M.map toSg] x = ((2 : Nat) : Int)) = (holdsL L x && holdsL M x) := by
  unfold haveN
  simp only [List.map_cons, List.map_nil, List.sum_cons, List.sum_nil, holdsG_map]
  cases holdsL L x <;> cases holdsL M x <;> simp

/-- sound turns -/
def okT (t : V) : Bool := soundV ⟨t.major, t.minor, t.patch, t.pre, []⟩
theorem er_okT (Ls : List (List Sp)) (h : Ls.all (·.all soundS) = true) : ∀ (k : Nat), ∀ e ∈ erL k Ls, okT (toEd e).at_ = true := by
  have key : ∀ (a b c : Int) (p q : List UInt8), soundV ⟨a, b, c, p, q⟩ = true → soundV ⟨a, b, c, p, []⟩ = true := by
    intro a b c p q h
    unfold soundV at h ⊢
    simp only [Bool.and_eq_true] at h ⊢
    exact ⟨h.1, h.2.1, h.2.2.1, h.2.2.2.1, rfl⟩
  induction Ls with
  | nil => intro k e he; simp [erL] at he
  | cons l Ls ih =>
    intro k e he
    rw [List.all_cons, Bool.and_eq_true] at h
    rw [erL] at he
    rcases List.mem_append.1 he with he | he
    · obtain ⟨s, hs, he⟩ := List.mem_flatMap.1 he
      have hm := List.all_eq_true.1 h.1 s hs
      unfold soundS at hm
      rw [Bool.and_eq_true] at hm
      have hf := key _ _ _ _ _ hm.1
      unfold erS at he
      split at he
      · simp at he; rw [he]; exact hf
      · rename_i ho
        split at he
        · simp at he
          rcases he with rfl | rfl
          · exact hf
          · have := hm.2
            rw [Bool.or_eq_true] at this
            rcases this with h | this
            · exact absurd h ho
            · exact key _ _ _ _ _ this
        · simp at he
    · exact ih h.2 (k + 1) e he
/-- all of a normal list's turns -/
structure NT (T : List V) (k : Nat) : Prop where
  up : Rising T
  ok : ∀ t ∈ T, okParts true t.pre = true
  sm : ∀ t ∈ T, t.pre.length ≤ 1048576
  sd : ∀ t ∈ T, okT t = true
  ln : T.length ≤ 2097152 * k
theorem NT.nf {T : List V} {k : Nat} (h : NT T k) (hk : k ≤ 2) : NF (outs T) := ⟨T, rfl, h.up, fun t ht => ⟨h.ok t ht, h.sm t ht⟩, by
  have h1 := h.ln
  have h5 : 2097152 * k ≤ 2097152 * 2 := Nat.mul_le_mul_left _ hk
  omega⟩
theorem sweep_nt (ch : Int → Bool) (Ls : List (List Sp)) (hsz : ∀ l ∈ Ls, l.length ≤ 1048576 ∧ ∀ s ∈ l, smallS s) (hsd : Ls.all (·.all soundS) = true) (E : List Er) (hE : E.Perm (erL 0 Ls)) (hs : SortedE (E.map toEd)) :
    NT (swT (fun b => ch (having Ls.length b)) (fun _ => 0) false (E.map toEd)) Ls.length := by
  have e1 := swT_tog (fun b => ch (having Ls.length b)) (E.map toEd) (fun x => ch (having Ls.length (fun j => sumB (E.map toEd) j x))) (fun x => rfl) hs (E.map toEd) [] false rfl
  have e2 : (fun j => tot [] j) = (fun _ => (0 : Int)) := rfl
  rw [e2] at e1
  have hsub := tog_sub_list (fun x => ch (having Ls.length (fun j => sumB (E.map toEd) j x))) (poss (E.map toEd)) false
  rw [← e1] at hsub
  have hmem : ∀ t, t ∈ (swT (fun b => ch (having Ls.length b)) (fun _ => 0) false (E.map toEd)) → ∃ e ∈ erL 0 Ls, (toEd e).at_ = t := by
    intro t ht
    obtain ⟨d, hd, rfl⟩ := (poss_mem _ hs).1 t (hsub.subset ht)
    obtain ⟨e, he, rfl⟩ := List.mem_map.1 hd
    exact ⟨e, hE.mem_iff.1 he, rfl⟩
  refine ⟨List.Pairwise.sublist hsub (poss_rising _ hs), ?_, ?_, ?_, ?_⟩
  · intro t ht
    obtain ⟨e, he, rfl⟩ := hmem t ht
    exact er_ok Ls hsd 0 e he
  · intro t ht
    obtain ⟨e, he, rfl⟩ := hmem t ht
    have := er_small Ls hsz 0 e he
    show e.a4.data.toList.length ≤ _
    rw [Array.length_toList]
    exact this
  · intro t ht
    obtain ⟨e, he, rfl⟩ := hmem t ht
    exact er_okT Ls hsd 0 e he
  · have h1 : (poss (E.map toEd)).length ≤ (E.map toEd).length := by
      have : ∀ l : List Ed, (poss l).length ≤ l.length := by
        intro l
        induction l with
        | nil => simp [poss]
        | cons e r ih =>
          rw [poss]
          split
          · rw [List.length_cons]; omega
          · rw [List.length_cons, List.length_cons]; omega
      exact this _
    have h2 := hsub.length_le
    have h3 := erL_len Ls (fun l hl => (hsz l hl).1) 0
    have h4 := hE.length_eq
    rw [List.length_map] at h1
    omega
theorem outs_len2 (T : List V) : 2 * (outs T).length ≤ T.length + 1 := by
  induction T using outs.induct with
  | case1 => simp [outs]
  | case2 x => simp [outs]
  | case3 x y r ih => rw [outs, List.length_cons, List.length_cons, List.length_cons]; omega
theorem NT.sound {T : List V} {k : Nat} (h : NT T k) : (outs T).all soundS = true := by
  rw [List.all_eq_true]
  intro s hs
  have hv : ∀ x y o, vFrom (spV x y o) = ⟨x.major, x.minor, x.patch, x.pre, []⟩ := fun x y o => by simp [vFrom, spV]
  have hw : ∀ x y o, vTo (spV x y o) = ⟨y.major, y.minor, y.patch, y.pre, []⟩ := fun x y o => by simp [vTo, spV]
  rcases outs_mem T s hs with ⟨x, hx, rfl⟩ | ⟨x, hx, y, hy, rfl⟩
  · unfold soundS
    rw [hv]
    have := h.sd x hx
    unfold okT at this
    rw [this]; rfl
  · unfold soundS
    rw [hv, hw]
    have h1 := h.sd x hx
    have h2 := h.sd y hy
    unfold okT at h1 h2
    rw [h1, h2]; rfl
/-- a normal list's span, and the one ahead of it -/
theorem outs_at : ∀ (T : List V), Rising T → ∀ (i : Nat) (s : Sp), (outs T)[i]? = some s →
    ∃ x y o, s = spV x y o ∧ (o = true → y = zeroV0 ∧ i + 1 = (outs T).length) ∧ (o = false → verC x y = -1) ∧ (∀ j p, j + 1 = i → (outs T)[j]? = some p → ∃ x' y', p = spV x' y' false ∧ verC y' x = -1)
  | [], _, i, s, h => by simp [outs] at h
  | [a], _, i, s, h => by
    have hi : i = 0 := by
      have := (List.getElem?_eq_some_iff.1 h).1
      simp [outs] at this; omega
    subst hi
    have e : spV a zeroV0 true = s := by simpa [outs] using h
    exact ⟨a, zeroV0, true, e.symm, fun _ => ⟨rfl, rfl⟩, (fun h => by cases h), (fun j p hj => by omega)⟩
  | a :: b :: r, hr, i, s, h => by
    have hab : verC a b < 0 := rising_head hr b (by simp)
    have hb := rising_tail hr
    have m1 : ∀ {u v : V}, verC u v < 0 → verC u v = -1 := fun {u v} h => by have := good_ver.rng u v; omega
    rw [outs] at h ⊢
    cases i with
    | zero =>
      have e : spV a b false = s := by simpa using h
      exact ⟨a, b, false, e.symm, (fun h => by cases h), fun _ => m1 hab, (fun j p hj => by omega)⟩
    | succ i =>
      rw [List.getElem?_cons_succ] at h
      obtain ⟨x, y, o, e, h1, h2, h3⟩ := outs_at r (rising_tail hb) i s h
      refine ⟨x, y, o, e, fun ho => ⟨(h1 ho).1, by rw [List.length_cons, ← (h1 ho).2]⟩, h2, ?_⟩
      intro j p hj hp
      cases j with
      | zero =>
        have hi : i = 0 := by omega
        subst hi
        have ep : spV a b false = p := by simpa using hp
        refine ⟨a, b, ep.symm, m1 ?_⟩
        have hx : x ∈ r := by
          cases r with
          | nil => simp [outs] at h
          | cons c r' =>
            cases r' with
            | nil =>
              have : spV c zeroV0 true = s := by simpa [outs] using h
              have h5 := congrArg cFrom (this.trans e)
              rw [cFrom_spV, cFrom_spV] at h5
              simp [h5]
            | cons d r' =>
              have : spV c d false = s := by simpa [outs] using h
              have h5 := congrArg cFrom (this.trans e)
              rw [cFrom_spV, cFrom_spV] at h5
              simp [h5]
        exact rising_head hb x hx
      | succ j =>
        rw [List.getElem?_cons_succ] at hp
        exact h3 j p (by omega) hp
end Go.Proofs.YtegapdmbpkfpmaaGreatDoor
