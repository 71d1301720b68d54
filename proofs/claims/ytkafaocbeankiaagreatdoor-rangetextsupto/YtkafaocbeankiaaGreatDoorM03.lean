import Derived.Test.YtkafaocbeankiaaGreatDoorM02
import Derived.Lib.ItoaNum
/-
  Sound parts are those that the reader takes to the end.
-/
namespace Go.Proofs.YtkafaocbeankiaaGreatDoor
set_option linter.unusedVariables false

theorem isP_dot {c : UInt8} (h : isP c = true) : c ≠ 46 := by
  intro e; subst e; exact absurd h (by decide)

theorem splitD_other (c : UInt8) (hc : c ≠ 46) (r : List UInt8) : ∀ (q : List UInt8), (∀ x ∈ q, x ≠ 46) → ∃ t ps, splitD (q ++ c :: r) = (q ++ c :: t) :: ps
  | [], _ => by
    rw [List.nil_append, splitD_cons, if_neg hc]
    cases h : splitD r with
    | nil => exact absurd h (splitD_ne r)
    | cons p ps => exact ⟨p, ps, rfl⟩
  | x :: q, h => by
    obtain ⟨t, ps, e⟩ := splitD_other c hc r q (fun y hy => h y (List.mem_cons_of_mem _ hy))
    rw [List.cons_append, splitD_cons, if_neg (h x (List.mem_cons_self ..)), e]
    exact ⟨t, ps, rfl⟩

theorem drop_run (l : List UInt8) (i : Nat) (p : UInt8 → Bool) : l.drop i = subT l i (runN p l i) ++ l.drop (i + runN p l i) := by
  unfold subT; rw [← List.drop_drop, List.take_append_drop]

theorem sub_all (p : UInt8 → Bool) (l : List UInt8) (i : Nat) : (subT l i (runN p l i)).all p = true := by
  rw [subT_run]; exact List.all_takeWhile

theorem sub_len (l : List UInt8) (i k : Nat) (h : i + k ≤ l.length) : (subT l i k).length = k := by
  unfold subT; simp; omega

theorem parts_iff (s : Bool) (l : List UInt8) : ∀ (n i : Nat), l.length - i = n → i ≤ l.length → (rdParts s l i = (0, l.length) ↔ (splitD (l.drop i)).all (okPart s) = true) := by
  intro n
  induction n using Nat.strongRecOn with
  | ind n ih =>
    intro i hn hi
    have hle := runN_le isP l i hi
    have hd := drop_run l i isP
    have hall := sub_all isP l i
    have hlen := sub_len l i _ hle
    have hnd : ∀ x ∈ subT l i (runN isP l i), x ≠ 46 := fun x hx => isP_dot (List.all_eq_true.1 hall x hx)
    rw [rdParts_eq]
    -- what stands behind the run
    rcases Nat.lt_or_ge (i + runN isP l i) l.length with hlt | hge
    · have hst := runN_stop isP l i hlt
      rw [List.drop_eq_getElem_cons hlt] at hd
      by_cases h46 : l[i + runN isP l i] = 46
      · rw [h46] at hd
        have hsp : splitD (l.drop i) = subT l i (runN isP l i) :: splitD (l.drop (i + runN isP l i + 1)) := by
          rw [hd]; exact splitD_dot _ _ hnd
        have hg : l[i + runN isP l i]? = some 46 := by rw [List.getElem?_eq_getElem hlt, h46]
        rw [hsp, List.all_cons, Bool.and_eq_true]
        by_cases h0 : runN isP l i = 0
        · rw [if_pos h0]
          have : subT l i (runN isP l i) = [] := List.length_eq_zero_iff.1 (by omega)
          rw [this]
          constructor
          · intro h; simp at h
          · rintro ⟨h, _⟩; simp [okPart] at h
        · rw [if_neg h0]
          by_cases hb : badZ s (subT l i (runN isP l i)) = true
          · rw [if_pos hb]
            constructor
            · intro h; simp at h
            · rintro ⟨h, _⟩; simp [okPart, hb] at h
          · rw [if_neg hb, if_pos hg]
            have hok : okPart s (subT l i (runN isP l i)) = true := by
              have h1 : (subT l i (runN isP l i)).isEmpty = false := by
                cases h : subT l i (runN isP l i) with
                | nil => rw [h] at hlen; simp at hlen; omega
                | cons c r => rfl
              have h2 : badZ s (subT l i (runN isP l i)) = false := by simpa using hb
              simp [okPart, h1, hall, h2]
            rw [ih (l.length - (i + runN isP l i + 1)) (by omega) (i + runN isP l i + 1) rfl (by omega)]
            simp [hok]
      · obtain ⟨t, ps, e⟩ := splitD_other _ h46 (l.drop (i + runN isP l i + 1)) _ hnd
        rw [← hd] at e
        have hbad : okPart s (subT l i (runN isP l i) ++ l[i + runN isP l i] :: t) = false := by
          unfold okPart
          rw [List.all_append, List.all_cons, hst]; simp
        have hg : ¬ l[i + runN isP l i]? = some 46 := by
          rw [List.getElem?_eq_getElem hlt]; simpa using h46
        rw [e, List.all_cons, hbad, if_neg hg]
        have hne : ¬ i + runN isP l i = l.length := by omega
        by_cases h0 : runN isP l i = 0
        · rw [if_pos h0]; simp
        · rw [if_neg h0]
          split <;> simp [hne]
    · have hn0 : l.drop (i + runN isP l i) = [] := List.drop_of_length_le hge
      rw [hn0, List.append_nil] at hd
      have hsp : splitD (l.drop i) = [subT l i (runN isP l i)] := by
        rw [hd]; exact splitD_free _ hnd
      have hg : ¬ l[i + runN isP l i]? = some 46 := by
        rw [List.getElem?_eq_none hge]; simp
      rw [hsp, List.all_cons, List.all_nil, Bool.and_true, if_neg hg]
      have heq : i + runN isP l i = l.length := by omega
      by_cases h0 : runN isP l i = 0
      · rw [if_pos h0]
        have : subT l i (runN isP l i) = [] := List.length_eq_zero_iff.1 (by omega)
        rw [this]
        simp [okPart]
      · rw [if_neg h0]
        have h1 : (subT l i (runN isP l i)).isEmpty = false := by
          cases h : subT l i (runN isP l i) with
          | nil => rw [h] at hlen; simp at hlen; omega
          | cons c r => rfl
        by_cases hb : badZ s (subT l i (runN isP l i)) = true
        · rw [if_pos hb]; simp [okPart, hb]
        · rw [if_neg hb]
          have h2 : badZ s (subT l i (runN isP l i)) = false := by simpa using hb
          simp [okPart, h1, hall, h2, heq]

theorem parts_ok (s : Bool) (l : List UInt8) (h : l ≠ []) : decide (rdParts s l 0 = (0, l.length)) = okParts s l := by
  have e := parts_iff s l _ 0 rfl (Nat.zero_le _)
  rw [List.drop_zero] at e
  have h1 : l.isEmpty = false := by simpa using h
  unfold okParts
  rw [h1, Bool.false_or, Bool.eq_iff_iff]
  simp only [decide_eq_true_eq]
  exact e

end Go.Proofs.YtkafaocbeankiaaGreatDoor

/-
  What is written is read as it is, and the other way round.
-/
namespace Go.Proofs.YtkafaocbeankiaaGreatDoor
set_option linter.unusedVariables false

/-! ### runs at a place -/
theorem tw_app (f : UInt8 → Bool) : ∀ (p r : List UInt8), p.all f = true → (∀ c t, r = c :: t → f c = false) → (p ++ r).takeWhile f = p
  | [], r, _, h => by
    cases r with
    | nil => rfl
    | cons c t => simp [h c t rfl]
  | c :: p, r, hp, h => by
    simp only [List.all_cons, Bool.and_eq_true] at hp
    rw [List.cons_append, List.takeWhile_cons, if_pos hp.1, tw_app f p r hp.2 h]

theorem run_of (f : UInt8 → Bool) (l p r : List UInt8) (i : Nat) (hd : l.drop i = p ++ r) (hp : p.all f = true) (hr : ∀ c t, r = c :: t → f c = false) :
    runN f l i = p.length ∧ subT l i p.length = p ∧ l[i + p.length]? = r.head? ∧ l.drop (i + p.length) = r := by
  refine ⟨?_, ?_, ?_, ?_⟩
  · unfold runN; rw [hd, tw_app f p r hp hr]
  · unfold subT; rw [hd]; simp
  · rw [← List.getElem?_drop, hd]
    rw [List.getElem?_append_right (Nat.le_refl _)]
    simp [List.head?_eq_getElem?]
  · rw [← List.drop_drop, hd]; simp

/-! ### numerals -/
theorem dig_val (u : Nat) (h : u < 10) : (UInt8.ofNat (48 + u)).toNat = 48 + u := by
  show (48 + u) % 256 = 48 + u; omega
theorem dig_isD (u : Nat) (h : u < 10) : isD (UInt8.ofNat (48 + u)) = true := by
  unfold isD; rw [dig_val u h]; simp; omega

theorem dec_val (u : Nat) : valN (Lib.decDigits u) = u := by
  induction u using Nat.strongRecOn with
  | ind u ih =>
    rw [Lib.decDigits]
    split
    · rename_i h
      show valF 0 _ = _
      unfold valF; rw [dig_val u h]; omega
    · rename_i h
      rw [valN_snoc, ih (u / 10) (by omega)]
      unfold valF; rw [dig_val _ (Nat.mod_lt _ (by decide))]; omega

theorem dec_all (u : Nat) : (Lib.decDigits u).all isD = true := by
  induction u using Nat.strongRecOn with
  | ind u ih =>
    rw [Lib.decDigits]
    split
    · rename_i h; rw [List.all_cons, dig_isD u h]; rfl
    · rename_i h
      rw [List.all_append, ih (u / 10) (by omega), List.all_cons, dig_isD _ (Nat.mod_lt u (by decide : 0 < 10))]; rfl

theorem dec_ne (u : Nat) : Lib.decDigits u ≠ [] := by
  rw [Lib.decDigits]; split <;> simp

theorem dec_head (u : Nat) (h : 0 < u) : (Lib.decDigits u)[0]? ≠ some 48 := by
  induction u using Nat.strongRecOn with
  | ind u ih =>
    rw [Lib.decDigits]
    split
    · rename_i h'
      intro e
      simp only [List.getElem?_cons_zero, Option.some.injEq] at e
      have := dig_val u h'
      rw [e] at this
      have e48 : (48 : UInt8).toNat = 48 := rfl
      omega
    · rename_i h'
      have := ih (u / 10) (by omega) (by omega)
      have hne := dec_ne (u / 10)
      rw [List.getElem?_append_left]
      · exact this
      · exact List.length_pos_iff.2 hne

theorem dec_zeros (u : Nat) : ¬ (1 < (Lib.decDigits u).length ∧ (Lib.decDigits u)[0]? = some 48) := by
  rintro ⟨h1, h2⟩
  rcases Nat.eq_zero_or_pos u with rfl | h
  · rw [Lib.decDigits_one (by decide)] at h1; simp at h1
  · exact dec_head u h h2

/-- digits without needless zeros are their number's numeral -/
theorem dec_of (l : List UInt8) (hne : l ≠ []) (hd : l.all isD = true) (hz : ¬ (1 < l.length ∧ l[0]? = some 48)) : Lib.decDigits (valN l).toNat = l := by
  -- the last digit off
  have key : ∀ (n : Nat) (l : List UInt8), l.length = n → l ≠ [] → l.all isD = true → ¬ (1 < l.length ∧ l[0]? = some 48) → Lib.decDigits (valN l).toNat = l ∧ (1 < l.length → 0 < valN l.dropLast) := by
    intro n
    induction n with
    | zero => intro l hl hne; exact absurd (List.length_eq_zero_iff.1 hl) hne
    | succ n ih =>
      intro l hl hne hd hz
      obtain ⟨q, c, rfl⟩ : ∃ q c, l = q ++ [c] := ⟨l.dropLast, l.getLast hne, (List.dropLast_concat_getLast hne).symm⟩
      have hd' := hd
      rw [List.all_append, Bool.and_eq_true] at hd'
      have hc := isD_ge (show isD c = true by simpa using hd'.2)
      have hcv : UInt8.ofNat (48 + (c.toNat - 48)) = c := by
        apply UInt8.toNat_inj.1; rw [dig_val _ (by omega)]; omega
      rw [List.dropLast_concat]
      by_cases hq : q = []
      · subst hq
        refine ⟨?_, by simp⟩
        have hv : valN ([] ++ [c]) = (c.toNat : Int) - 48 := by show valF 0 c = _; unfold valF; omega
        have hn : ((c.toNat : Int) - 48).toNat = c.toNat - 48 := by omega
        rw [hv, hn, Lib.decDigits_one (by omega), hcv]; rfl
      · have hql : 0 < q.length := List.length_pos_iff.2 hq
        have hz1 : q[0]? ≠ some 48 := by
          intro h
          refine hz ⟨by simp; omega, ?_⟩
          rw [List.getElem?_append_left hql]; exact h
        have hlen : q.length = n := by simp at hl; exact hl
        have h1 := ih q hlen hq hd'.1 (fun h => hz1 h.2)
        have hpos : 0 < valN q := by
          rcases Nat.lt_or_ge 1 q.length with hgt | hle
          · have h2 := h1.2 hgt
            have : valN q.dropLast ≤ valN q := by
              conv => rhs; rw [← List.dropLast_concat_getLast hq]
              exact val_prefix _ _ (by rw [List.dropLast_concat_getLast hq]; exact hd'.1)
            omega
          · obtain ⟨x, rfl⟩ : ∃ x, q = [x] := List.length_eq_one_iff.1 (by omega)
            have hx := isD_ge (show isD x = true by simpa using hd'.1)
            have hx0 : x.toNat ≠ 48 := fun hh => hz1 (by
              have : x = 48 := UInt8.toNat_inj.1 hh
              rw [this]; rfl)
            show 0 < valF 0 x
            unfold valF; omega
        refine ⟨?_, fun _ => hpos⟩
        rw [valN_snoc]
        have hv : (valF (valN q) c).toNat = 10 * (valN q).toNat + (c.toNat - 48) := by unfold valF; omega
        rw [hv, Lib.decDigits, dif_neg (by omega)]
        have e1 : (10 * (valN q).toNat + (c.toNat - 48)) / 10 = (valN q).toNat := by omega
        have e2 : (10 * (valN q).toNat + (c.toNat - 48)) % 10 = c.toNat - 48 := by omega
        rw [e1, e2, h1.1, hcv]
  exact (key _ l rfl hne hd hz).1

theorem rdNum_dec (l r : List UInt8) (i u : Nat) (hu : u ≤ 999999999) (hd : l.drop i = Lib.decDigits u ++ r) (hr : ∀ c t, r = c :: t → isD c = false) :
    rdNum l i = (0, (u : Int), i + (Lib.decDigits u).length) := by
  obtain ⟨h1, h2, h3, h4⟩ := run_of isD l _ r i hd (dec_all u) hr
  have hl : 0 < (Lib.decDigits u).length := List.length_pos_iff.2 (dec_ne u)
  have hz := dec_zeros u
  have h0 : l[i]? = (Lib.decDigits u)[0]? := by
    have : l[i]? = (l.drop i)[0]? := by rw [List.getElem?_drop]; rfl
    rw [this, hd, List.getElem?_append_left hl]
  unfold rdNum
  rw [h1, h2, dec_val, h0, if_neg (by omega), if_neg hz, if_neg (by omega)]

theorem rdNum_ok (l : List UInt8) (i : Nat) (hi : i ≤ l.length) (h : (rdNum l i).1 = 0) :
    ∃ k, 0 < k ∧ i + k ≤ l.length ∧ (rdNum l i).2.2 = i + k ∧ subT l i k = Lib.decDigits (rdNum l i).2.1.toNat ∧ 0 ≤ (rdNum l i).2.1 ∧ (rdNum l i).2.1 ≤ 999999999 := by
  have hle := runN_le isD l i hi
  have hall := sub_all isD l i
  have hlen := sub_len l i _ hle
  unfold rdNum at h ⊢
  by_cases h0 : runN isD l i = 0
  · rw [if_pos h0] at h; simp at h
  · rw [if_neg h0] at h ⊢
    by_cases hz : 1 < runN isD l i ∧ l[i]? = some 48
    · rw [if_pos hz] at h; simp at h
    · rw [if_neg hz] at h ⊢
      by_cases hv : valN (subT l i (runN isD l i)) > 999999999
      · rw [if_pos hv] at h; simp at h
      · rw [if_neg hv]
        refine ⟨runN isD l i, by omega, hle, rfl, ?_, val_nn _ hall, Int.not_lt.1 hv⟩
        have hne : subT l i (runN isD l i) ≠ [] := fun e => by rw [e] at hlen; simp at hlen; omega
        have h48 : (subT l i (runN isD l i))[0]? = l[i]? := by
          unfold subT
          rw [List.getElem?_take_of_lt (by omega), List.getElem?_drop]; rfl
        rw [dec_of _ hne hall (by rw [hlen, h48]; exact hz)]

/-! ### parts -/
theorem parts_give (s : Bool) (l : List UInt8) : ∀ (n : Nat) (q r : List UInt8) (i : Nat), q.length = n → l.drop i = q ++ r → (splitD q).all (okPart s) = true → (∀ c t, r = c :: t → isP c = false ∧ c ≠ 46) → rdParts s l i = (0, i + q.length) := by
  intro n
  induction n using Nat.strongRecOn with
  | ind n ih =>
    intro q r i hn hd hq hr
    cases h3 : cut3 q with
    | false =>
      have e := cut_no h3
      rw [e] at hq
      have hc : cut1 q = q := by
        have h' : Lib.indexByte q 46 = -1 := by simpa [cut3] using h3
        unfold cut1; rw [if_pos h']
      rw [hc] at hq
      have hq' : q.isEmpty = false ∧ q.all isP = true ∧ badZ s q = false := by
        rw [List.all_cons] at hq; simp only [okPart, List.all_nil, Bool.and_true, Bool.and_eq_true, Bool.not_eq_true'] at hq; exact ⟨hq.1.1, hq.1.2, hq.2⟩
      obtain ⟨h1, h2, h4, h5⟩ := run_of isP l q r i hd hq'.2.1 (fun c t e => (hr c t e).1)
      have hql : 0 < q.length := by
        cases q with
        | nil => simp at hq'
        | cons c t => simp
      rw [rdParts_eq, h1, h2, h4, if_neg (by omega), if_neg (by simp [hq'.2.2]), if_neg]
      cases r with
      | nil => simp
      | cons c t => simpa using (hr c t rfl).2
    | true =>
      have e := cut_yes h3
      rw [e.1] at hq
      simp only [List.all_cons, Bool.and_eq_true] at hq
      have hq' : (cut1 q).isEmpty = false ∧ (cut1 q).all isP = true ∧ badZ s (cut1 q) = false := by
        have := hq.1
        simp only [okPart, Bool.and_eq_true, Bool.not_eq_true'] at this; exact ⟨this.1.1, this.1.2, this.2⟩
      have hsplit : q = cut1 q ++ 46 :: cut2 q := by
        have h' : ¬ Lib.indexByte q 46 = -1 := by simpa [cut3] using h3
        rcases ix_cases q with ⟨g1, g2⟩ | ⟨k, g1, g2, g3, g4⟩
        · exact absurd g1 h'
        · unfold cut1 cut2
          rw [if_neg h', if_neg h', g1, Int.toNat_natCast]
          exact g4
      have hd2 : l.drop i = cut1 q ++ 46 :: (cut2 q ++ r) := by
        rw [hd]; conv => lhs; rw [hsplit]
        simp
      obtain ⟨h1, h2, h4, h5⟩ := run_of isP l (cut1 q) _ i hd2 hq'.2.1 (fun c t e => by
        have : c = 46 := by simp at e; exact e.1.symm
        rw [this]; decide)
      have hql : 0 < (cut1 q).length := by
        cases h : cut1 q with
        | nil => rw [h] at hq'; simp at hq'
        | cons c t => simp
      rw [rdParts_eq, h1, h2, h4, if_neg (by omega), if_neg (by simp [hq'.2.2]), if_pos (by simp)]
      have hd3 : l.drop (i + (cut1 q).length + 1) = cut2 q ++ r := by
        rw [← List.drop_drop, h5]; simp
      rw [ih (cut2 q).length (by omega) (cut2 q) r _ rfl hd3 hq.2 hr]
      have hl : q.length = (cut1 q).length + ((cut2 q).length + 1) := by
        conv => lhs; rw [hsplit]
        simp
      rw [hl]; congr 1; omega

theorem sub_split (l : List UInt8) (i k j : Nat) (hk : i + k < j) (hj : j ≤ l.length) (h46 : l[i + k]? = some 46) :
    subT l i (j - i) = subT l i k ++ 46 :: subT l (i + k + 1) (j - (i + k + 1)) := by
  unfold subT
  obtain ⟨hlt, e⟩ := List.getElem?_eq_some_iff.1 h46
  have h1 : j - i = k + ((j - (i + k + 1)) + 1) := by omega
  rw [h1, List.take_add, List.drop_drop, List.drop_eq_getElem_cons hlt, List.take_succ_cons, e]

theorem parts_take (s : Bool) (l : List UInt8) : ∀ (n i : Nat), l.length - i = n → i ≤ l.length → (rdParts s l i).1 = 0 →
    i < (rdParts s l i).2 ∧ (rdParts s l i).2 ≤ l.length ∧ (splitD (subT l i ((rdParts s l i).2 - i))).all (okPart s) = true := by
  intro n
  induction n using Nat.strongRecOn with
  | ind n ih =>
    intro i hn hi h
    have hle := runN_le isP l i hi
    have hall := sub_all isP l i
    have hlen := sub_len l i _ hle
    have hnd : ∀ x ∈ subT l i (runN isP l i), x ≠ 46 := fun x hx => isP_dot (List.all_eq_true.1 hall x hx)
    rw [rdParts_eq] at h ⊢
    by_cases h0 : runN isP l i = 0
    · rw [if_pos h0] at h; simp at h
    · rw [if_neg h0] at h ⊢
      by_cases hb : badZ s (subT l i (runN isP l i)) = true
      · rw [if_pos hb] at h; simp at h
      · rw [if_neg hb] at h ⊢
        have hok : okPart s (subT l i (runN isP l i)) = true := by
          have h1 : (subT l i (runN isP l i)).isEmpty = false := by
            cases h : subT l i (runN isP l i) with
            | nil => rw [h] at hlen; simp at hlen; omega
            | cons c r => rfl
          have h2 : badZ s (subT l i (runN isP l i)) = false := by simpa using hb
          simp [okPart, h1, hall, h2]
        by_cases hg : l[i + runN isP l i]? = some 46
        · rw [if_pos hg] at h ⊢
          have hlt := (List.getElem?_eq_some_iff.1 hg).1
          obtain ⟨g1, g2, g3⟩ := ih (l.length - (i + runN isP l i + 1)) (by omega) (i + runN isP l i + 1) rfl (by omega) h
          refine ⟨by omega, g2, ?_⟩
          rw [sub_split l i (runN isP l i) _ (by omega) g2 hg, splitD_dot _ _ hnd, List.all_cons, hok, g3]; rfl
        · rw [if_neg hg]
          refine ⟨by simp only; omega, hle, ?_⟩
          simp only
          rw [show i + runN isP l i - i = runN isP l i by omega, splitD_free _ hnd]
          simp [hok]

end Go.Proofs.YtkafaocbeankiaaGreatDoor
