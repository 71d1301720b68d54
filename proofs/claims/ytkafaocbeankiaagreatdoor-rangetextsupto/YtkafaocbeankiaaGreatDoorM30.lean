import Derived.Test.YtkafaocbeankiaaGreatDoorM29
import Derived.Test.YtkafaocbeankiaaGreatDoorM15
/-
  What the answer of a sweep has; sound turns; lists in order.
-/
namespace Go.Proofs.YtkafaocbeankiaaGreatDoor
set_option linter.unusedVariables false

/-- what h says at the last place that is not behind x -/
def lastH (h : V → Bool) : Bool → List V → V → Bool
  | on, [], _ => on
  | on, d :: D, x => if verC d x ≤ 0 then lastH h (h d) D x else on
theorem par_tog (h : V → Bool) (x : V) : ∀ (D : List V) (on : Bool), Rising D → par (tog h on D) x = (on ^^ lastH h on D x)
  | [], on, _ => by simp [tog, par, lastH]
  | d :: D, on, hr => by
    have hD := rising_tail hr
    by_cases hd : verC d x ≤ 0
    · rw [lastH, if_pos hd, tog]
      split
      · rename_i e
        rw [par_tog h x D on hD, e]
      · rename_i e
        rw [par, decide_eq_true hd, par_tog h x D (h d) hD]
        cases hb : h d <;> cases on <;> first | (exact absurd hb e) | (cases lastH h _ D x <;> rfl)
    · rw [lastH, if_neg hd]
      have hx : verC x d < 0 := by have := v_anti x d; omega
      rw [par_none]
      · cases on <;> rfl
      · intro t ht
        rcases List.mem_cons.1 ((tog_sub_list h (d :: D) on).subset ht) with e | e
        · rw [e]; exact hx
        · exact v_lt_trans hx (rising_head hr t e)
theorem last_spec (h : V → Bool) (x : V) : ∀ (D : List V) (on : Bool), Rising D →
    ((∀ d ∈ D, verC x d < 0) ∧ lastH h on D x = on) ∨ ∃ z ∈ D, verC z x ≤ 0 ∧ (∀ p ∈ D, verC z p < 0 → verC x p < 0) ∧ lastH h on D x = h z
  | [], on, _ => Or.inl ⟨fun d hd => by simp at hd, rfl⟩
  | d :: D, on, hr => by
    have hD := rising_tail hr
    by_cases hd : verC d x ≤ 0
    · right
      rw [lastH, if_pos hd]
      rcases last_spec h x D (h d) hD with ⟨h1, h2⟩ | ⟨z, hz, h1, h2, h3⟩
      · refine ⟨d, by simp, hd, fun p hp hlt => ?_, h2⟩
        rcases List.mem_cons.1 hp with e | e
        · rw [e, v_self] at hlt; omega
        · exact h1 p e
      · refine ⟨z, by simp [hz], h1, fun p hp hlt => ?_, h3⟩
        rcases List.mem_cons.1 hp with e | e
        · rw [e] at hlt
          have := rising_head hr z hz
          have := v_anti d z
          omega
        · exact h2 p e hlt
    · left
      have hx : verC x d < 0 := by have := v_anti x d; omega
      rw [lastH, if_neg hd]
      refine ⟨fun p hp => ?_, rfl⟩
      rcases List.mem_cons.1 hp with e | e
      · rw [e]; exact hx
      · exact v_lt_trans hx (rising_head hr p e)

/-- the sweep's answer has what is wanted -/
theorem sweep_par (ch : Int → Bool) (h0 : ch 0 = false) (Ls : List (List Sg)) (E : List Ed) (hE : E.Perm (edL 0 Ls)) (hs : SortedE E) (x : V) :
    par (swT (fun b => ch (having Ls.length b)) (fun _ => 0) false E) x = ch (haveN Ls x) := by
  have e1 := swT_tog (fun b => ch (having Ls.length b)) E (fun x => ch (haveN Ls x)) (fun x => by simp only [having_lists Ls E hE]) hs E [] false rfl
  have e2 : (fun j => tot [] j) = (fun _ => (0 : Int)) := rfl
  rw [e2] at e1
  rw [e1, par_tog _ x _ _ (poss_rising E hs), Bool.false_xor]
  have hne : ∀ e ∈ E, ∃ p ∈ poss E, verC e.at_ p = 0 := (poss_mem E hs).2
  rcases last_spec (fun x => ch (haveN Ls x)) x (poss E) false (poss_rising E hs) with ⟨h1, h2⟩ | ⟨z, hz, h1, h2, h3⟩
  · rw [h2, ← having_lists Ls E hE]
    have : (fun j => sumB E j x) = fun _ => (0 : Int) := by
      funext j
      refine sumB_none E j x fun e he hle => ?_
      obtain ⟨p, hp, h0⟩ := hne e he
      have a1 := h1 p hp
      have a2 := v_anti e.at_ p
      have a3 := v_le_trans (show verC p e.at_ ≤ 0 by omega) hle
      have a4 := v_anti x p
      omega
    rw [this, having_zero, h0]
  · rw [h3]
    show ch (haveN Ls z) = _
    rw [← having_lists Ls E hE, ← having_lists Ls E hE]
    congr 2
    funext j
    refine sumB_congr E j z x fun e he => ?_
    obtain ⟨p, hp, h0⟩ := hne e he
    have a2 := v_anti e.at_ p
    by_cases hzp : verC z p < 0
    · have hxp := h2 p hp hzp
      constructor
      · intro h
        exfalso
        have a3 := v_le_trans (show verC p e.at_ ≤ 0 by omega) h
        have a4 := v_anti z p
        omega
      · intro h
        exfalso
        have a3 := v_le_trans (show verC p e.at_ ≤ 0 by omega) h
        have a4 := v_anti x p
        omega
    · have hpz : verC p z ≤ 0 := by have := v_anti z p; omega
      have hez : verC e.at_ z ≤ 0 := v_le_trans (show verC e.at_ p ≤ 0 by omega) hpz
      exact ⟨fun _ => v_le_trans hez h1, fun _ => hez⟩

theorem holdsG_map (l : List Sp) (x : V) : holdsG (l.map toSg) x = holdsL l x := by
  unfold holdsG holdsL
  rw [List.any_map]
  rfl
theorem have_one (L : List Sp) (x : V) : decide (0 < haveN [L.map toSg] x) = holdsL L x := by
  unfold haveN
  simp only [List.map_cons, List.map_nil, List.sum_cons, List.sum_nil, holdsG_map]
  cases holdsL L x <;> simp
theorem have_some (L M : List Sp) (x : V) : decide (0 < haveN [L.map toSg, M.map toSg] x) = (holdsL L x || holdsL M x) := by
  unfold haveN
  simp only [List.map_cons, List.map_nil, List.sum_cons, List.sum_nil, holdsG_map]
  cases holdsL L x <;> cases holdsL M x <;> simp
theorem have_all (L M : List Sp) (x : V) : decide (haveN [L.map toSg, M.map toSg] x = ((2 : Nat) : Int)) = (holdsL L x && holdsL M x) := by
  unfold haveN
  simp only [List.map_cons, List.map_nil, List.sum_cons, List.sum_nil, holdsG_map]
  cases holdsL L x <;> cases holdsL M x <;> simp

/-- sound turns -/
def okT (t : V) : Bool := soundV ⟨t.major, t.minor, t.patch, t.pre, []⟩
theorem er_okT (Ls : List (List Sp)) (h : Ls.all (·.all soundS) = true) : ∀ (k : Nat), ∀ e ∈ erL k Ls, okT (toEd e).at_ = true := by
  have key : ∀ (a b c : Int) (p q : List UInt8), soundV ⟨a, b, c, p, q⟩ = true → soundV ⟨a, b, c, p, []⟩ = true := by
    intro a b c p q h
    unfold soundV at h ⊢
    simp only [Bool.and_eq_true] at h ⊢
    exact ⟨h.1, h.2.1, h.2.2.1, h.2.2.2.1, rfl⟩
  induction Ls with
  | nil => intro k e he; simp [erL] at he
  | cons l Ls ih =>
    intro k e he
    rw [List.all_cons, Bool.and_eq_true] at h
    rw [erL] at he
    rcases List.mem_append.1 he with he | he
    · obtain ⟨s, hs, he⟩ := List.mem_flatMap.1 he
      have hm := List.all_eq_true.1 h.1 s hs
      unfold soundS at hm
      rw [Bool.and_eq_true] at hm
      have hf := key _ _ _ _ _ hm.1
      unfold erS at he
      split at he
      · simp at he; rw [he]; exact hf
      · rename_i ho
        split at he
        · simp at he
          rcases he with rfl | rfl
          · exact hf
          · have := hm.2
            rw [Bool.or_eq_true] at this
            rcases this with h | this
            · exact absurd h ho
            · exact key _ _ _ _ _ this
        · simp at he
    · exact ih h.2 (k + 1) e he
/-- all of a normal list's turns -/
structure NT (T : List V) (k : Nat) : Prop where
  up : Rising T
  ok : ∀ t ∈ T, okParts true t.pre = true
  sm : ∀ t ∈ T, t.pre.length ≤ 1048576
  sd : ∀ t ∈ T, okT t = true
  ln : T.length ≤ 2097152 * k
theorem NT.nf {T : List V} {k : Nat} (h : NT T k) (hk : k ≤ 2) : NF (outs T) := ⟨T, rfl, h.up, fun t ht => ⟨h.ok t ht, h.sm t ht⟩, by
  have h1 := h.ln
  have h5 : 2097152 * k ≤ 2097152 * 2 := Nat.mul_le_mul_left _ hk
  omega⟩
theorem sweep_nt (ch : Int → Bool) (Ls : List (List Sp)) (hsz : ∀ l ∈ Ls, l.length ≤ 1048576 ∧ ∀ s ∈ l, smallS s) (hsd : Ls.all (·.all soundS) = true) (E : List Er) (hE : E.Perm (erL 0 Ls)) (hs : SortedE (E.map toEd)) :
    NT (swT (fun b => ch (having Ls.length b)) (fun _ => 0) false (E.map toEd)) Ls.length := by
  have e1 := swT_tog (fun b => ch (having Ls.length b)) (E.map toEd) (fun x => ch (having Ls.length (fun j => sumB (E.map toEd) j x))) (fun x => rfl) hs (E.map toEd) [] false rfl
  have e2 : (fun j => tot [] j) = (fun _ => (0 : Int)) := rfl
  rw [e2] at e1
  have hsub := tog_sub_list (fun x => ch (having Ls.length (fun j => sumB (E.map toEd) j x))) (poss (E.map toEd)) false
  rw [← e1] at hsub
  have hmem : ∀ t, t ∈ (swT (fun b => ch (having Ls.length b)) (fun _ => 0) false (E.map toEd)) → ∃ e ∈ erL 0 Ls, (toEd e).at_ = t := by
    intro t ht
    obtain ⟨d, hd, rfl⟩ := (poss_mem _ hs).1 t (hsub.subset ht)
    obtain ⟨e, he, rfl⟩ := List.mem_map.1 hd
    exact ⟨e, hE.mem_iff.1 he, rfl⟩
  refine ⟨List.Pairwise.sublist hsub (poss_rising _ hs), ?_, ?_, ?_, ?_⟩
  · intro t ht
    obtain ⟨e, he, rfl⟩ := hmem t ht
    exact er_ok Ls hsd 0 e he
  · intro t ht
    obtain ⟨e, he, rfl⟩ := hmem t ht
    have := er_small Ls hsz 0 e he
    show e.a4.data.toList.length ≤ _
    rw [Array.length_toList]
    exact this
  · intro t ht
    obtain ⟨e, he, rfl⟩ := hmem t ht
    exact er_okT Ls hsd 0 e he
  · have h1 : (poss (E.map toEd)).length ≤ (E.map toEd).length := by
      have : ∀ l : List Ed, (poss l).length ≤ l.length := by
        intro l
        induction l with
        | nil => simp [poss]
        | cons e r ih =>
          rw [poss]
          split
          · rw [List.length_cons]; omega
          · rw [List.length_cons, List.length_cons]; omega
      exact this _
    have h2 := hsub.length_le
    have h3 := erL_len Ls (fun l hl => (hsz l hl).1) 0
    have h4 := hE.length_eq
    rw [List.length_map] at h1
    omega
theorem outs_len2 (T : List V) : 2 * (outs T).length ≤ T.length + 1 := by
  induction T using outs.induct with
  | case1 => simp [outs]
  | case2 x => simp [outs]
  | case3 x y r ih => rw [outs, List.length_cons, List.length_cons, List.length_cons]; omega
theorem NT.sound {T : List V} {k : Nat} (h : NT T k) : (outs T).all soundS = true := by
  rw [List.all_eq_true]
  intro s hs
  have hv : ∀ x y o, vFrom (spV x y o) = ⟨x.major, x.minor, x.patch, x.pre, []⟩ := fun x y o => by simp [vFrom, spV]
  have hw : ∀ x y o, vTo (spV x y o) = ⟨y.major, y.minor, y.patch, y.pre, []⟩ := fun x y o => by simp [vTo, spV]
  rcases outs_mem T s hs with ⟨x, hx, rfl⟩ | ⟨x, hx, y, hy, rfl⟩
  · unfold soundS
    rw [hv]
    have := h.sd x hx
    unfold okT at this
    rw [this]; rfl
  · unfold soundS
    rw [hv, hw]
    have h1 := h.sd x hx
    have h2 := h.sd y hy
    unfold okT at h1 h2
    rw [h1, h2]; rfl
theorem par_eq {T U : List V} {k l : Nat} (hT : NT T k) (hU : NT U l) (h : ∀ x, par T x = par U x) : T = U := by
  by_cases e : T = U
  · exact e
  · obtain ⟨t, _, hn⟩ := par_one T U hT.up hU.up hT.ok hU.ok e
    exact absurd (h t) hn

/-- a normal list's span, and the one ahead of it -/
theorem outs_at : ∀ (T : List V), Rising T → ∀ (i : Nat) (s : Sp), (outs T)[i]? = some s →
    ∃ x y o, s = spV x y o ∧ (o = true → y = zeroV0 ∧ i + 1 = (outs T).length) ∧ (o = false → verC x y = -1) ∧ (∀ j p, j + 1 = i → (outs T)[j]? = some p → ∃ x' y', p = spV x' y' false ∧ verC y' x = -1)
  | [], _, i, s, h => by simp [outs] at h
  | [a], _, i, s, h => by
    have hi : i = 0 := by
      have := (List.getElem?_eq_some_iff.1 h).1
      simp [outs] at this; omega
    subst hi
    have e : spV a zeroV0 true = s := by simpa [outs] using h
    exact ⟨a, zeroV0, true, e.symm, fun _ => ⟨rfl, rfl⟩, (fun h => by cases h), (fun j p hj => by omega)⟩
  | a :: b :: r, hr, i, s, h => by
    have hab : verC a b < 0 := rising_head hr b (by simp)
    have hb := rising_tail hr
    have m1 : ∀ {u v : V}, verC u v < 0 → verC u v = -1 := fun {u v} h => by have := good_ver.rng u v; omega
    rw [outs] at h ⊢
    cases i with
    | zero =>
      have e : spV a b false = s := by simpa using h
      exact ⟨a, b, false, e.symm, (fun h => by cases h), fun _ => m1 hab, (fun j p hj => by omega)⟩
    | succ i =>
      rw [List.getElem?_cons_succ] at h
      obtain ⟨x, y, o, e, h1, h2, h3⟩ := outs_at r (rising_tail hb) i s h
      refine ⟨x, y, o, e, fun ho => ⟨(h1 ho).1, by rw [List.length_cons, ← (h1 ho).2]⟩, h2, ?_⟩
      intro j p hj hp
      cases j with
      | zero =>
        have hi : i = 0 := by omega
        subst hi
        have ep : spV a b false = p := by simpa using hp
        refine ⟨a, b, ep.symm, m1 ?_⟩
        have hx : x ∈ r := by
          cases r with
          | nil => simp [outs] at h
          | cons c r' =>
            cases r' with
            | nil =>
              have : spV c zeroV0 true = s := by simpa [outs] using h
              have h5 := congrArg cFrom (this.trans e)
              rw [cFrom_spV, cFrom_spV] at h5
              simp [h5]
            | cons d r' =>
              have : spV c d false = s := by simpa [outs] using h
              have h5 := congrArg cFrom (this.trans e)
              rw [cFrom_spV, cFrom_spV] at h5
              simp [h5]
        exact rising_head hb x hx
      | succ j =>
        rw [List.getElem?_cons_succ] at hp
        exact h3 j p (by omega) hp
end Go.Proofs.YtkafaocbeankiaaGreatDoor

/-
  The document's bounds, and a sweep along them.
-/
namespace Go.Proofs.YtkafaocbeankiaaGreatDoor
open Go.RowKit
set_option linter.unusedVariables false

theorem bndS_rising {acc : List V} (s : Sp) (h : Rising acc) : Rising (bndS acc s) := by
  unfold bndS
  split
  · exact ins_rising _ _ h
  · exact ins_rising _ _ (ins_rising _ _ h)
theorem bnd_rising : ∀ (l : List Sp) (acc : List V), Rising acc → Rising (l.foldl bndS acc)
  | [], acc, h => h
  | s :: l, acc, h => bnd_rising l (bndS acc s) (bndS_rising s h)
theorem bndS_old {acc : List V} (s : Sp) {d : V} (h : d ∈ acc) : d ∈ bndS acc s := by
  unfold bndS
  split
  · exact ins_old _ _ _ h
  · exact ins_old _ _ _ (ins_old _ _ _ h)
theorem bnd_old : ∀ (l : List Sp) (acc : List V) (d : V), d ∈ acc → d ∈ l.foldl bndS acc
  | [], acc, d, h => h
  | s :: l, acc, d, h => bnd_old l (bndS acc s) d (bndS_old s h)
theorem sound_pre (s : Sp) (h : soundS s = true) : okParts true (qFrom s).pre = true ∧ (¬ s.o = true → okParts true (qTo s).pre = true) := by
  unfold soundS at h
  rw [Bool.and_eq_true] at h
  constructor
  · have := h.1
    unfold soundV vFrom at this
    simp only [Bool.and_eq_true] at this
    exact this.2.2.2.1
  · intro ho
    have := h.2
    rw [Bool.or_eq_true] at this
    rcases this with h | this
    · exact absurd h ho
    · unfold soundV vTo at this
      simp only [Bool.and_eq_true] at this
      exact this.2.2.2.1
theorem bnd_ok : ∀ (l : List Sp) (acc : List V), l.all soundS = true → (∀ d ∈ acc, okParts true d.pre = true) → ∀ d ∈ l.foldl bndS acc, okParts true d.pre = true
  | [], acc, _, h => h
  | s :: l, acc, hs, h => by
    rw [List.all_cons, Bool.and_eq_true] at hs
    refine bnd_ok l (bndS acc s) hs.2 ?_
    have hp := sound_pre s hs.1
    intro d hd
    unfold bndS at hd
    split at hd
    · rcases ins_mem _ _ _ hd with rfl | hd
      · exact hp.1
      · exact h d hd
    · rename_i ho
      rcases ins_mem _ _ _ hd with rfl | hd
      · exact hp.2 ho
      · rcases ins_mem _ _ _ hd with rfl | hd
        · exact hp.1
        · exact h d hd
theorem bnd_has : ∀ (l : List Sp) (acc : List V) (s : Sp), s ∈ l → (∃ d ∈ l.foldl bndS acc, verC (qFrom s) d = 0) ∧ (¬ s.o = true → ∃ d ∈ l.foldl bndS acc, verC (qTo s) d = 0)
  | [], acc, s, h => by simp at h
  | t :: l, acc, s, h => by
    rcases List.mem_cons.1 h with rfl | h
    · constructor
      · obtain ⟨d, hd, h0⟩ := ins_new (qFrom s) acc
        refine ⟨d, bnd_old l _ d ?_, h0⟩
        unfold bndS
        split
        · exact hd
        · exact ins_old _ _ _ hd
      · intro ho
        obtain ⟨d, hd, h0⟩ := ins_new (qTo s) (insV (qFrom s) acc)
        refine ⟨d, bnd_old l _ d ?_, h0⟩
        unfold bndS
        rw [if_neg ho]
        exact hd
    · exact bnd_has l (bndS acc t) s h
theorem er_src (Ls : List (List Sp)) : ∀ (k : Nat), ∀ e ∈ erL k Ls, ∃ s ∈ Ls.flatten, (toEd e).at_ = qFrom s ∨ (¬ s.o = true ∧ (toEd e).at_ = qTo s) := by
  induction Ls with
  | nil => intro k e he; simp [erL] at he
  | cons l Ls ih =>
    intro k e he
    rw [erL] at he
    rcases List.mem_append.1 he with he | he
    · obtain ⟨s, hs, he⟩ := List.mem_flatMap.1 he
      refine ⟨s, by simp [hs], ?_⟩
      unfold erS at he
      split at he
      · simp at he; rw [he]; exact Or.inl rfl
      · rename_i ho
        split at he
        · simp at he
          rcases he with rfl | rfl
          · exact Or.inl rfl
          · exact Or.inr ⟨ho, rfl⟩
        · simp at he
    · obtain ⟨s, hs, h⟩ := ih (k + 1) e he
      exact ⟨s, by rw [List.flatten_cons]; exact List.mem_append_right _ hs, h⟩
theorem all_flat (Ls : List (List Sp)) (h : Ls.all (·.all soundS) = true) : Ls.flatten.all soundS = true := by
  rw [List.all_eq_true] at h ⊢
  intro s hs
  obtain ⟨l, hl, hs⟩ := List.mem_flatten.1 hs
  exact List.all_eq_true.1 (h l hl) s hs
/-- a sweep turns where what is had turns along the document's bounds -/
theorem sweep_bnd (ch : Int → Bool) (h0 : ch 0 = false) (Ls : List (List Sp)) (hsd : Ls.all (·.all soundS) = true) (E : List Er) (hE : E.Perm (erL 0 Ls)) (hs : SortedE (E.map toEd)) :
    swT (fun b => ch (having Ls.length b)) (fun _ => 0) false (E.map toEd) = tog (fun x => ch (haveN (Ls.map (·.map toSg)) x)) false (bnd Ls.flatten) := by
  have hE' : (E.map toEd).Perm (edL 0 (Ls.map (·.map toSg))) := by rw [← erL_ed]; exact hE.map _
  have hfl := all_flat Ls hsd
  have hok := bnd_ok Ls.flatten [] hfl (fun d hd => by simp at hd)
  have := sweep_bounds ch h0 (Ls.map (·.map toSg)) (E.map toEd) hE' hs (bnd Ls.flatten) (bnd_rising Ls.flatten [] List.Pairwise.nil) ?_
  · rw [List.length_map] at this; exact this
  · intro p hp
    obtain ⟨d, hd, rfl⟩ := (poss_mem _ hs).1 p hp
    obtain ⟨e, he, rfl⟩ := List.mem_map.1 hd
    have he' := hE.mem_iff.1 he
    obtain ⟨s, hs', hsrc⟩ := er_src Ls 0 e he'
    have hb := bnd_has Ls.flatten [] s hs'
    have hp2 := sound_pre s (List.all_eq_true.1 hfl s hs')
    rcases hsrc with h | ⟨ho, h⟩
    · obtain ⟨d, hd, hz⟩ := hb.1
      have : qFrom s = d := ver_one hp2.1 (hok d hd) hz
      rw [h, this]; exact hd
    · obtain ⟨d, hd, hz⟩ := hb.2 ho
      have : qTo s = d := ver_one (hp2.2 ho) (hok d hd) hz
      rw [h, this]; exact hd
end Go.Proofs.YtkafaocbeankiaaGreatDoor
