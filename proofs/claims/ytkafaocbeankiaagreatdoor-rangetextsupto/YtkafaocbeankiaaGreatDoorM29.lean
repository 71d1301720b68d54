import Derived.Test.YtkafaocbeankiaaGreatDoorM28
/-
  Normal lists: what they have, and that they are told by what they have.
-/
namespace Go.Proofs.YtkafaocbeankiaaGreatDoor
set_option linter.unusedVariables false

theorem tog_sub_list (h : V → Bool) : ∀ (ps : List V) (on : Bool), (tog h on ps).Sublist ps
  | [], on => List.Sublist.slnil
  | p :: ps, on => by
    rw [tog]
    split
    · exact (tog_sub_list h ps on).cons _
    · exact (tog_sub_list h ps (h p)).cons_cons _

/-- how many turns lie at a version or ahead of it: odd? -/
def par : List V → V → Bool
  | [], _ => false
  | t :: r, x => decide (verC t x ≤ 0) ^^ par r x
theorem par_none (T : List V) (x : V) (h : ∀ t ∈ T, verC x t < 0) : par T x = false := by
  induction T with
  | nil => rfl
  | cons t r ih =>
    have h1 := h t (by simp)
    have h2 := v_anti x t
    rw [par, ih (fun t' ht' => h t' (by simp [ht'])), decide_eq_false (by omega)]
    rfl
theorem rising_tail {t : V} {r : List V} (h : Rising (t :: r)) : Rising r := (List.pairwise_cons.1 h).2
theorem rising_head {t : V} {r : List V} (h : Rising (t :: r)) : ∀ x ∈ r, verC t x < 0 := (List.pairwise_cons.1 h).1

theorem cFrom_spV (x y : V) (o : Bool) : cFrom (spV x y o) = x := by
  cases x; simp [cFrom, spV]
theorem cTo_spV (x y : V) (o : Bool) : cTo (spV x y o) = y := by
  cases y; simp [cTo, spV]
/-- a normal list has what its turns say -/
theorem outs_par : ∀ (T : List V), Rising T → ∀ x, holdsL (outs T) x = par T x
  | [], _, x => rfl
  | [a], _, x => by
    rw [outs, holdsL, List.any_cons, List.any_nil, hasS, cFrom_spV, par, par]
    show (decide (verC a x ≤ 0) && (true || _) || false) = _
    cases decide (verC a x ≤ 0) <;> rfl
  | a :: b :: r, h, x => by
    have hab : verC a b < 0 := rising_head h b (by simp)
    have hr := rising_tail h
    have ih := outs_par r (rising_tail hr) x
    unfold holdsL at ih
    rw [outs, holdsL, List.any_cons, ih, hasS, cFrom_spV, cTo_spV, par, par]
    show (decide (verC a x ≤ 0) && (false || decide (verC x b < 0)) || par r x) = _
    have a1 := v_anti x b
    by_cases hb : verC b x ≤ 0
    · have ha : verC a x ≤ 0 := v_le_trans (show verC a b ≤ 0 by omega) hb
      rw [decide_eq_true ha, decide_eq_true hb, decide_eq_false (by omega)]
      cases par r x <;> rfl
    · have hp : par r x = false := par_none r x fun t ht => v_lt_trans (show verC x b < 0 by omega) (rising_head hr t ht)
      rw [hp, decide_eq_false hb, decide_eq_true (show verC x b < 0 by omega)]
      cases decide (verC a x ≤ 0) <;> rfl

/-- every turn is a bound of the list -/
theorem outs_bound (h1 h2 : V → Bool) : ∀ (T : List V) (t : V), t ∈ T → h1 t ≠ h2 t → ((outs T).any fun s => (h1 (cFrom s) != h2 (cFrom s)) || (!s.o && (h1 (cTo s) != h2 (cTo s)))) = true
  | [], t, ht, _ => by simp at ht
  | [a], t, ht, hn => by
    have e : t = a := by simpa using ht
    subst e
    rw [outs, List.any_cons, cFrom_spV]
    simp [hn]
  | a :: b :: r, t, ht, hn => by
    rw [outs, List.any_cons, cFrom_spV, cTo_spV]
    rcases List.mem_cons.1 ht with e | ht
    · subst e; simp [hn]
    · rcases List.mem_cons.1 ht with e | ht
      · subst e; simp [hn, spV]
      · rw [outs_bound h1 h2 r t ht hn]; simp

/-- two rising lists are one, or a turn parts them -/
theorem par_one : ∀ (T U : List V), Rising T → Rising U → (∀ t ∈ T, okParts true t.pre = true) → (∀ t ∈ U, okParts true t.pre = true) → T ≠ U → ∃ t, (t ∈ T ∨ t ∈ U) ∧ par T t ≠ par U t
  | [], [], _, _, _, _, h => absurd rfl h
  | [], u :: U, _, hU, _, _, _ => ⟨u, Or.inr (by simp), by
    rw [par, par, par_none U u (rising_head hU), v_self]; decide⟩
  | t :: T, [], hT, _, _, _, _ => ⟨t, Or.inl (by simp), by
    rw [par, par, par_none T t (rising_head hT), v_self]; decide⟩
  | t :: T, u :: U, hT, hU, okT, okU, hne => by
    have h0 := v_anti t u
    by_cases h1 : verC t u < 0
    · refine ⟨t, Or.inl (by simp), ?_⟩
      rw [par_none (u :: U) t (fun x hx => by
        rcases List.mem_cons.1 hx with rfl | hx
        · exact h1
        · exact v_lt_trans h1 (rising_head hU x hx)), par, par_none T t (rising_head hT), v_self]
      decide
    · by_cases h2 : verC u t < 0
      · refine ⟨u, Or.inr (by simp), ?_⟩
        rw [par_none (t :: T) u (fun x hx => by
          rcases List.mem_cons.1 hx with rfl | hx
          · exact h2
          · exact v_lt_trans h2 (rising_head hT x hx)), par, par_none U u (rising_head hU), v_self]
        decide
      · have e : t = u := ver_one (okT t (by simp)) (okU u (by simp)) (by omega)
        subst e
        obtain ⟨x, hx, hp⟩ := par_one T U (rising_tail hT) (rising_tail hU) (fun t ht => okT t (by simp [ht])) (fun t ht => okU t (by simp [ht])) (fun e => hne (by rw [e]))
        have hlt : verC t x < 0 := by
          rcases hx with hx | hx
          · exact rising_head hT x hx
          · exact rising_head hU x hx
        refine ⟨x, by rcases hx with hx | hx <;> simp [hx], ?_⟩
        rw [par, par, decide_eq_true (show verC t x ≤ 0 by omega)]
        intro h
        apply hp
        revert h
        cases par T x <;> cases par U x <;> decide

/-- a normal list, by its turns -/
def NF (N : List Sp) : Prop := ∃ T, N = outs T ∧ Rising T ∧ (∀ t ∈ T, okParts true t.pre = true ∧ t.pre.length ≤ 1048576) ∧ T.length ≤ 4194304
theorem NF.len {N : List Sp} (h : NF N) : N.length ≤ 4194304 := by
  obtain ⟨T, rfl, _, _, hl⟩ := h
  have : ∀ T : List V, (outs T).length ≤ T.length := by
    intro T
    induction T using outs.induct with
    | case1 => simp [outs]
    | case2 x => simp [outs]
    | case3 x y r ih => rw [outs, List.length_cons, List.length_cons, List.length_cons]; omega
  exact Nat.le_trans (this T) hl
theorem outs_mem : ∀ (T : List V) (s : Sp), s ∈ outs T → (∃ x ∈ T, s = spV x zeroV0 true) ∨ ∃ x ∈ T, ∃ y ∈ T, s = spV x y false
  | [], s, h => by simp [outs] at h
  | [a], s, h => by
    have e : s = spV a zeroV0 true := by simpa [outs] using h
    exact Or.inl ⟨a, by simp, e⟩
  | a :: b :: r, s, h => by
    rw [outs] at h
    rcases List.mem_cons.1 h with e | h
    · exact Or.inr ⟨a, by simp, b, by simp, e⟩
    · rcases outs_mem r s h with ⟨x, hx, e⟩ | ⟨x, hx, y, hy, e⟩
      · exact Or.inl ⟨x, by simp [hx], e⟩
      · exact Or.inr ⟨x, by simp [hx], y, by simp [hy], e⟩
theorem NF.small {N : List Sp} (h : NF N) : ∀ s ∈ N, smallS s := by
  obtain ⟨T, rfl, _, hp, hl⟩ := h
  have hsz : ∀ l : List UInt8, (⟨l.toArray⟩ : ByteArray).size = l.length := fun l => by simp [ByteArray.size]
  have h0 : (⟨#[]⟩ : ByteArray).size = 0 := rfl
  intro s hs
  rcases outs_mem T s hs with ⟨x, hx, rfl⟩ | ⟨x, hx, y, hy, rfl⟩
  · refine ⟨?_, ?_, ?_, ?_⟩
    · show (⟨x.pre.toArray⟩ : ByteArray).size ≤ _; rw [hsz]; exact (hp x hx).2
    · show (⟨#[]⟩ : ByteArray).size ≤ _; rw [h0]; omega
    · show (⟨zeroV0.pre.toArray⟩ : ByteArray).size ≤ _; rw [hsz]; show 0 ≤ _; omega
    · show (⟨#[]⟩ : ByteArray).size ≤ _; rw [h0]; omega
  · refine ⟨?_, ?_, ?_, ?_⟩
    · show (⟨x.pre.toArray⟩ : ByteArray).size ≤ _; rw [hsz]; exact (hp x hx).2
    · show (⟨#[]⟩ : ByteArray).size ≤ _; rw [h0]; omega
    · show (⟨y.pre.toArray⟩ : ByteArray).size ≤ _; rw [hsz]; exact (hp y hy).2
    · show (⟨#[]⟩ : ByteArray).size ≤ _; rw [h0]; omega
/-- the one normal list -/
theorem nf_one {N M : List Sp} (hN : NF N) (hM : NF M) {r : Bool} (hr : r = true ↔ N = M) : (r != (partsL N M N || partsL N M M)) = true := by
  obtain ⟨T, rfl, hT, okT, _⟩ := hN
  obtain ⟨U, rfl, hU, okU, _⟩ := hM
  by_cases e : outs T = outs U
  · have hp : ∀ C, partsL (outs T) (outs U) C = false := fun C => by
      rw [← e]
      unfold partsL
      rw [List.any_eq_false]
      intro s _
      unfold partS
      simp
    rw [hp, hp, hr.2 e]; rfl
  · have hr' : r = false := by
      cases r with
      | false => rfl
      | true => exact absurd (hr.1 rfl) e
    obtain ⟨t, ht, hn⟩ := par_one T U hT hU (fun t ht => (okT t ht).1) (fun t ht => (okU t ht).1) (fun h => e (by rw [h]))
    rw [← outs_par T hT, ← outs_par U hU] at hn
    rw [hr']
    rcases ht with ht | ht
    · have := outs_bound (holdsL (outs T)) (holdsL (outs U)) T t ht hn
      have h1 : partsL (outs T) (outs U) (outs T) = true := this
      rw [h1]; rfl
    · have := outs_bound (holdsL (outs T)) (holdsL (outs U)) U t ht hn
      have h1 : partsL (outs T) (outs U) (outs U) = true := this
      rw [h1]; cases partsL (outs T) (outs U) (outs T) <;> rfl

theorem er_ok (Ls : List (List Sp)) (h : Ls.all (·.all soundS) = true) : ∀ (k : Nat), ∀ e ∈ erL k Ls, okParts true (toEd e).at_.pre = true := by
  induction Ls with
  | nil => intro k e he; simp [erL] at he
  | cons l Ls ih =>
    intro k e he
    rw [List.all_cons, Bool.and_eq_true] at h
    rw [erL] at he
    rcases List.mem_append.1 he with he | he
    · obtain ⟨s, hs, he⟩ := List.mem_flatMap.1 he
      have hm := List.all_eq_true.1 h.1 s hs
      unfold soundS at hm
      rw [Bool.and_eq_true] at hm
      have hf : okParts true s.f4.data.toList = true := by
        have := hm.1
        unfold soundV vFrom at this
        simp only [Bool.and_eq_true] at this
        exact this.2.2.2.1
      unfold erS at he
      split at he
      · simp at he; rw [he]; exact hf
      · rename_i ho
        have ht : okParts true s.t4.data.toList = true := by
          have := hm.2
          rw [Bool.or_eq_true] at this
          rcases this with h | this
          · exact absurd h ho
          · unfold soundV vTo at this
            simp only [Bool.and_eq_true] at this
            exact this.2.2.2.1
        split at he
        · simp at he
          rcases he with rfl | rfl
          · exact hf
          · exact ht
        · simp at he
    · exact ih h.2 (k + 1) e he
/-- what a sweep answers is normal -/
theorem sweep_nf (ch : Int → Bool) (Ls : List (List Sp)) (hl2 : Ls.length ≤ 2) (hsz : ∀ l ∈ Ls, l.length ≤ 1048576 ∧ ∀ s ∈ l, smallS s) (hsd : Ls.all (·.all soundS) = true) (E : List Er) (hE : E.Perm (erL 0 Ls)) (hs : SortedE (E.map toEd)) :
    NF (outs (swT (fun b => ch (having Ls.length b)) (fun _ => 0) false (E.map toEd))) := by
  have hE' : (E.map toEd).Perm (edL 0 (Ls.map (·.map toSg))) := by rw [← erL_ed]; exact hE.map _
  have e1 := swT_tog (fun b => ch (having Ls.length b)) (E.map toEd) (fun x => ch (having Ls.length (fun j => sumB (E.map toEd) j x))) (fun x => rfl) hs (E.map toEd) [] false rfl
  have e2 : (fun j => tot [] j) = (fun _ => (0 : Int)) := rfl
  rw [e2] at e1
  have hsub := tog_sub_list (fun x => ch (having Ls.length (fun j => sumB (E.map toEd) j x))) (poss (E.map toEd)) false
  rw [← e1] at hsub
  refine ⟨_, rfl, ?_, ?_, ?_⟩
  · exact List.Pairwise.sublist hsub (poss_rising _ hs)
  · intro t ht
    obtain ⟨d, hd, rfl⟩ := (poss_mem _ hs).1 t (hsub.subset ht)
    obtain ⟨e, he, rfl⟩ := List.mem_map.1 hd
    have he' := hE.mem_iff.1 he
    exact ⟨er_ok Ls hsd 0 e he', by
      have := er_small Ls hsz 0 e he'
      show e.a4.data.toList.length ≤ _
      rw [Array.length_toList]
      exact this⟩
  · have h1 : (poss (E.map toEd)).length ≤ (E.map toEd).length := by
      have : ∀ l : List Ed, (poss l).length ≤ l.length := by
        intro l
        induction l with
        | nil => simp [poss]
        | cons e r ih =>
          rw [poss]
          split
          · rw [List.length_cons]; omega
          · rw [List.length_cons, List.length_cons]; omega
      exact this _
    have h2 := hsub.length_le
    have h3 := erL_len Ls (fun l hl => (hsz l hl).1) 0
    have h4 := hE.length_eq
    rw [List.length_map] at h1
    have h5 : 2097152 * Ls.length ≤ 2097152 * 2 := Nat.mul_le_mul_left _ hl2
    omega
end Go.Proofs.YtkafaocbeankiaaGreatDoor
