import Derived.Test.YtkafaocbeankiaaGreatDoorM09
import Derived.Test.YtkafaocbeankiaaGreatDoorM08
import Derived.Test.YtkafaocbeankiaaGreatDoorM04
/-
  The document's Compare, walked.
-/
namespace Go.Proofs.YtkafaocbeankiaaGreatDoor
open Go.RowKit
set_option linter.unusedVariables false

set_option maxHeartbeats 1600000 in
theorem rcompare_any (a1 a2 a3 b1 b2 b3 : Int) (a4 a5 b4 b5 : ByteArray) (w : World) (hs : a4.size ≤ 1048576) (hs' : b4.size ≤ 1048576) :
    Calls Tryz.prog 17 #[.agg #[.int .i64 a1, .int .i64 a2, .int .i64 a3, .string a4, .string a5], .agg #[.int .i64 b1, .int .i64 b2, .int .i64 b3, .string b4, .string b5]] w fun e w' => e = .returned (.int .i64 (verC ⟨a1, a2, a3, a4.data.toList⟩ ⟨b1, b2, b3, b4.data.toList⟩)) ∧ Below w.heap.size w w' := by
  obtain ⟨R, hR⟩ : ∃ R, R = verC ⟨a1, a2, a3, a4.data.toList⟩ ⟨b1, b2, b3, b4.data.toList⟩ := ⟨_, rfl⟩
  have HR : Hid (R = verC ⟨a1, a2, a3, a4.data.toList⟩ ⟨b1, b2, b3, b4.data.toList⟩) := hR
  obtain ⟨p, hp⟩ : ∃ p, p = listC partC (splitD a4.data.toList) (splitD b4.data.toList) := ⟨_, rfl⟩
  have HP : Hid (p = listC partC (splitD a4.data.toList) (splitD b4.data.toList)) := hp
  have OP : Hid (∀ w, Calls Tryz.prog 31 #[.string a4, .string b4] w fun e w' => e = .returned (.int .i64 p) ∧ Below w.heap.size w w') := fun w => by rw [hp]; exact rorderPre_any a4 b4 w hs hs'
  have B2 : Hid (∀ o1 o2, Below w.heap.size w ((w.alloc o1).alloc o2)) := fun o1 o2 => gb_below (gb_alloc (gb_alloc (gb_refl w none) _) _)
  rw [← hR]
  clear hR hp hs hs'
  cases h1 : (a1 == b1) with
  | false =>
    have HZ : Hid (R = Lib.compareInt a1 b1) := by
      show R = _
      rw [HR.out, verC_eq]
      simp only
      rw [if_neg (fun e => (by simpa using h1 : ¬ a1 = b1) (cmp_zero.1 e))]
    go_enter Tryz.func17, Tryz.ntmps17
    go_wp2_with (first | (go_at_call 30; refine (rorder_any _ _ _).mono ?_; rintro e w' ⟨rfl, rfl⟩) | (go_at_call 31; refine (OP.out _).mono ?_; rintro e w3 ⟨rfl, hb3⟩))
    go_ret
    exact ⟨ret_int HZ.out.symm, B2.out _ _⟩
  | true =>
    cases h2 : (a2 == b2) with
    | false =>
      have HZ : Hid (R = Lib.compareInt a2 b2) := by
        show R = _
        rw [HR.out, verC_eq]
        simp only
        rw [if_pos (cmp_zero.2 (eq_of_beq h1)), if_neg (fun e => (by simpa using h2 : ¬ a2 = b2) (cmp_zero.1 e))]
      go_enter Tryz.func17, Tryz.ntmps17
      go_wp2_with (first | (go_at_call 30; refine (rorder_any _ _ _).mono ?_; rintro e w' ⟨rfl, rfl⟩) | (go_at_call 31; refine (OP.out _).mono ?_; rintro e w3 ⟨rfl, hb3⟩))
      go_ret
      exact ⟨ret_int HZ.out.symm, B2.out _ _⟩
    | true =>
      cases h3 : (a3 == b3) with
      | false =>
        have HZ : Hid (R = Lib.compareInt a3 b3) := by
          show R = _
          rw [HR.out, verC_eq]
          simp only
          rw [if_pos (cmp_zero.2 (eq_of_beq h1)), if_pos (cmp_zero.2 (eq_of_beq h2)), if_neg (fun e => (by simpa using h3 : ¬ a3 = b3) (cmp_zero.1 e))]
        go_enter Tryz.func17, Tryz.ntmps17
        go_wp2_with (first | (go_at_call 30; refine (rorder_any _ _ _).mono ?_; rintro e w' ⟨rfl, rfl⟩) | (go_at_call 31; refine (OP.out _).mono ?_; rintro e w3 ⟨rfl, hb3⟩))
        go_ret
        exact ⟨ret_int HZ.out.symm, B2.out _ _⟩
      | true =>
        have HQ : Hid (R = preC a4.data.toList b4.data.toList) := by
          show R = _
          rw [HR.out, verC_eq]
          simp only
          rw [if_pos (cmp_zero.2 (eq_of_beq h1)), if_pos (cmp_zero.2 (eq_of_beq h2)), if_pos (cmp_zero.2 (eq_of_beq h3))]
        cases he : (a4.toList == b4.toList) with
        | true =>
          have HZ : Hid (R = 0) := by
            show R = 0
            have e : a4.data.toList = b4.data.toList := by rw [← Lib.toList_data, ← Lib.toList_data]; exact eq_of_beq he
            rw [HQ.out, e]; exact good_pre.self _
          go_enter Tryz.func17, Tryz.ntmps17
          go_wp2_with (first | (go_at_call 30; refine (rorder_any _ _ _).mono ?_; rintro e w' ⟨rfl, rfl⟩) | (go_at_call 31; refine (OP.out _).mono ?_; rintro e w3 ⟨rfl, hb3⟩))
          go_ret
          exact ⟨ret_int HZ.out.symm, B2.out _ _⟩
        | false =>
          by_cases ha : a4.size = 0
          · have c1 := emp_t ha
            have HZ : Hid (R = 1) := by
              show R = 1
              have e : a4.data.toList = [] := List.length_eq_zero_iff.1 (by simpa using ha)
              have hb : b4.data.toList ≠ [] := by
                intro hb
                rw [Lib.toList_data, Lib.toList_data, e, hb] at he
                exact absurd he (by decide)
              rw [HQ.out, pre_empty _ _ (Or.inl e), e]
              exact cmp_gt (by have := List.length_pos_iff.2 hb; simp only [List.length_nil]; omega)
            clear ha
            go_enter Tryz.func17, Tryz.ntmps17
            go_wp2_with (first | (go_at_call 30; refine (rorder_any _ _ _).mono ?_; rintro e w' ⟨rfl, rfl⟩) | (go_at_call 31; refine (OP.out _).mono ?_; rintro e w3 ⟨rfl, hb3⟩))
            go_ret
            exact ⟨ret_int HZ.out.symm, B2.out _ _⟩
          · have c1 := emp_f ha
            by_cases hb : b4.size = 0
            · have c2 := emp_t hb
              have HZ : Hid (R = -1) := by
                show R = -1
                have e : b4.data.toList = [] := List.length_eq_zero_iff.1 (by simpa using hb)
                have ha' : a4.data.toList ≠ [] := fun h => ha (by show a4.data.size = 0; rw [← Array.length_toList, h]; rfl)
                rw [HQ.out, pre_empty _ _ (Or.inr e), e]
                exact cmp_lt (by have := List.length_pos_iff.2 ha'; simp only [List.length_nil]; omega)
              clear ha hb
              go_enter Tryz.func17, Tryz.ntmps17
              go_wp2_with (first | (go_at_call 30; refine (rorder_any _ _ _).mono ?_; rintro e w' ⟨rfl, rfl⟩) | (go_at_call 31; refine (OP.out _).mono ?_; rintro e w3 ⟨rfl, hb3⟩))
              go_ret
              exact ⟨ret_int HZ.out.symm, B2.out _ _⟩
            · have c2 := emp_f hb
              have HZ : Hid (R = p) := by
                show R = p
                rw [HQ.out, HP.out]
                exact pre_full _ _ (fun h => ha (by show a4.data.size = 0; rw [← Array.length_toList, h]; rfl)) (fun h => hb (by show b4.data.size = 0; rw [← Array.length_toList, h]; rfl))
              clear ha hb
              go_enter Tryz.func17, Tryz.ntmps17
              go_wp2_with (first | (go_at_call 30; refine (rorder_any _ _ _).mono ?_; rintro e w' ⟨rfl, rfl⟩) | (go_at_call 31; refine (OP.out _).mono ?_; rintro e w3 ⟨rfl, hb3⟩))
              go_ret
              exact ⟨ret_int HZ.out.symm, (B2.out _ _).trans (hb3.mono (B2.out _ _).size)⟩
end Go.Proofs.YtkafaocbeankiaaGreatDoor

/-
  Sweeping over edges, and telling bound by bound: one list.
-/
namespace Go.Proofs.YtkafaocbeankiaaGreatDoor
set_option linter.unusedVariables false

/-! ### the order, in small words -/
def vlt (a b : V) : Prop := verC a b < 0
theorem v_self (a : V) : verC a a = 0 := good_ver.self a
theorem v_anti (a b : V) : verC b a = - verC a b := good_ver.anti a b
theorem v_le_trans {a b d : V} (h1 : verC a b ≤ 0) (h2 : verC b d ≤ 0) : verC a d ≤ 0 := (good_ver.trans a b d h1 h2).1
theorem v_lt_le {a b d : V} (h1 : verC a b < 0) (h2 : verC b d ≤ 0) : verC a d < 0 := by
  have h := good_ver.trans a b d (by omega) h2
  have : verC a d ≠ 0 := fun e => by have := h.2.2 e; omega
  omega
theorem v_le_lt {a b d : V} (h1 : verC a b ≤ 0) (h2 : verC b d < 0) : verC a d < 0 := by
  have h := good_ver.trans a b d h1 (by omega)
  have : verC a d ≠ 0 := fun e => by have := h.2.2 e; omega
  omega
theorem v_lt_trans {a b d : V} (h1 : verC a b < 0) (h2 : verC b d < 0) : verC a d < 0 := v_lt_le h1 (by omega)

/-! ### toggles -/
/-- where h turns, along a list -/
def tog (h : V → Bool) : Bool → List V → List V
  | _, [] => []
  | on, p :: ps => if h p = on then tog h on ps else p :: tog h (h p) ps

/-- the turns of a longer list, where what is more does not turn -/
inductive Sub (h : V → Bool) : Bool → List V → List V → Prop
  | nil (on : Bool) : Sub h on [] []
  | both {on : Bool} {p : V} {D P : List V} : Sub h (h p) D P → Sub h on (p :: D) (p :: P)
  | skip {on : Bool} {p : V} {D P : List V} : h p = on → Sub h on D P → Sub h on (p :: D) P
theorem tog_sub {h : V → Bool} {on : Bool} {D P : List V} (s : Sub h on D P) : tog h on D = tog h on P := by
  induction s with
  | nil => rfl
  | @both on p D P _ ih =>
    unfold tog
    by_cases hp : h p = on
    · rw [if_pos hp, if_pos hp]; rw [hp] at ih; exact ih
    · rw [if_neg hp, if_neg hp, ih]
  | @skip on p D P hp _ ih =>
    rw [tog, if_pos hp]; exact ih

def Rising (l : List V) : Prop := l.Pairwise fun a b => verC a b < 0

theorem sub_rising (h : V → Bool) : ∀ (D P : List V) (y : Option V) (on : Bool),
    Rising D → Rising P → (∀ p ∈ P, p ∈ D) → (∀ z, y = some z → (∀ p ∈ D, verC z p < 0) ∧ on = h z) → (y = none → on = false) →
    (∀ x, x ∈ D → x ∉ P → (∀ p ∈ P, verC x p < 0) → h x = on) →
    (∀ x z, x ∈ D → x ∉ P → z ∈ P → verC z x < 0 → (∀ p ∈ P, verC z p < 0 → verC x p < 0) → h x = h z) → Sub h on D P
  | [], P, y, on, hD, hP, hs, hy, hn, h0, h1 => by
    cases P with
    | nil => exact Sub.nil on
    | cons p P => exact absurd (hs p (by simp)) (by simp)
  | d :: D, P, y, on, hD, hP, hs, hy, hn, h0, h1 => by
    have hDd := (List.pairwise_cons.1 hD).1
    have hDr := (List.pairwise_cons.1 hD).2
    by_cases hd : d ∈ P
    · cases P with
      | nil => simp at hd
      | cons p P =>
        have hPp := (List.pairwise_cons.1 hP).1
        have hPr := (List.pairwise_cons.1 hP).2
        have hpd : p = d := by
          rcases List.mem_cons.1 hd with e | e
          · exact e.symm
          · exfalso
            have a1 := hPp d e
            rcases List.mem_cons.1 (hs p (by simp)) with e2 | e2
            · rw [e2, v_self] at a1; omega
            · have a2 := hDd p e2
              have := v_anti p d; omega
        subst hpd
        refine Sub.both (sub_rising h D P (some p) (h p) hDr hPr ?_ (fun z e => by cases e; exact ⟨hDd, rfl⟩) (fun e => by cases e) ?_ ?_)
        · intro q hq
          rcases List.mem_cons.1 (hs q (by simp [hq])) with e | e
          · exfalso; have := hPp q hq; rw [e, v_self] at this; omega
          · exact e
        · intro x hx hxP hlt
          refine h1 x p (by simp [hx]) ?_ (by simp) (hDd x hx) ?_
          · intro e
            rcases List.mem_cons.1 e with e | e
            · have := hDd x hx; rw [e, v_self] at this; omega
            · exact hxP e
          · intro q hq hpq
            rcases List.mem_cons.1 hq with e | e
            · rw [e, v_self] at hpq; omega
            · exact hlt q e
        · intro x z hx hxP hz hzx hall
          refine h1 x z (by simp [hx]) ?_ (by simp [hz]) hzx ?_
          · intro e
            rcases List.mem_cons.1 e with e | e
            · have := hDd x hx; rw [e, v_self] at this; omega
            · exact hxP e
          · intro q hq hzq
            rcases List.mem_cons.1 hq with e | e
            · have := hPp z hz; rw [e] at hzq; have := v_anti p z; omega
            · exact hall q e hzq
    · have hall : ∀ p ∈ P, verC d p < 0 := fun p hp => by
        rcases List.mem_cons.1 (hs p hp) with e | e
        · exact absurd (e ▸ hp) hd
        · exact hDd p e
      refine Sub.skip (h0 d (by simp) hd hall) (sub_rising h D P y on hDr hP ?_ (fun z e => ⟨fun p hp => (hy z e).1 p (by simp [hp]), (hy z e).2⟩) hn ?_ ?_)
      · intro q hq
        rcases List.mem_cons.1 (hs q hq) with e | e
        · exact absurd (e ▸ hq) hd
        · exact e
      · intro x hx hxP hlt
        exact h0 x (by simp [hx]) hxP hlt
      · intro x z hx hxP hz hzx hall'
        exact h1 x z (by simp [hx]) hxP hz hzx hall'
end Go.Proofs.YtkafaocbeankiaaGreatDoor

/-
  The sweep's turns are the turns along its places.
-/
namespace Go.Proofs.YtkafaocbeankiaaGreatDoor
set_option linter.unusedVariables false

/-- an edge -/
structure Ed where
  at_ : V
  l : Nat
  d : Int
def upd (b : Nat → Int) (l : Nat) (d : Int) : Nat → Int := fun j => if j = l then b j + d else b j
/-- the steps of list j, in all -/
def tot : List Ed → Nat → Int
  | [], _ => 0
  | e :: r, j => (if j = e.l then e.d else 0) + tot r j
/-- the steps of list j up to x -/
def sumB : List Ed → Nat → V → Int
  | [], _, _ => 0
  | e :: r, j, x => (if j = e.l ∧ verC e.at_ x ≤ 0 then e.d else 0) + sumB r j x
def nextSame (e : Ed) : List Ed → Bool
  | [] => false
  | e' :: _ => decide (verC e.at_ e'.at_ = 0)
def swT (wt : (Nat → Int) → Bool) : (Nat → Int) → Bool → List Ed → List V
  | _, _, [] => []
  | b, on, e :: r =>
    if nextSame e r = true then swT wt (upd b e.l e.d) on r
    else if wt (upd b e.l e.d) = on then swT wt (upd b e.l e.d) on r
    else e.at_ :: swT wt (upd b e.l e.d) (wt (upd b e.l e.d)) r
/-- the places of a list of edges, each once -/
def poss : List Ed → List V
  | [] => []
  | e :: r => if nextSame e r = true then poss r else e.at_ :: poss r
def SortedE (E : List Ed) : Prop := E.Pairwise fun a b => verC a.at_ b.at_ ≤ 0

theorem tot_app (A B : List Ed) (j : Nat) : tot (A ++ B) j = tot A j + tot B j := by
  induction A with
  | nil => simp [tot]
  | cons e A ih => simp only [List.cons_append, tot, ih]; omega
theorem sumB_app (A B : List Ed) (j : Nat) (x : V) : sumB (A ++ B) j x = sumB A j x + sumB B j x := by
  induction A with
  | nil => simp [sumB]
  | cons e A ih => simp only [List.cons_append, sumB, ih]; omega
theorem sumB_all (A : List Ed) (j : Nat) (x : V) (h : ∀ e ∈ A, verC e.at_ x ≤ 0) : sumB A j x = tot A j := by
  induction A with
  | nil => rfl
  | cons e A ih =>
    have he := h e (by simp)
    simp only [sumB, tot, ih (fun e' h' => h e' (by simp [h'])), he, and_true]
theorem sumB_none (A : List Ed) (j : Nat) (x : V) (h : ∀ e ∈ A, ¬ verC e.at_ x ≤ 0) : sumB A j x = 0 := by
  induction A with
  | nil => rfl
  | cons e A ih =>
    have he := h e (by simp)
    simp only [sumB, ih (fun e' h' => h e' (by simp [h'])), he, and_false, if_false]
    omega
theorem sumB_congr (A : List Ed) (j : Nat) (x y : V) (h : ∀ e ∈ A, verC e.at_ x ≤ 0 ↔ verC e.at_ y ≤ 0) : sumB A j x = sumB A j y := by
  induction A with
  | nil => rfl
  | cons e A ih =>
    have he := h e (by simp)
    simp only [sumB, ih (fun e' h' => h e' (by simp [h'])), he]

theorem behind_all {e : Ed} {r : List Ed} (hs : SortedE (e :: r)) (hn : ¬ nextSame e r = true) : ∀ e' ∈ r, verC e.at_ e'.at_ < 0 := by
  cases r with
  | nil => intro e' h; simp at h
  | cons f r =>
    have h1 := (List.pairwise_cons.1 hs).1
    have h2 := (List.pairwise_cons.1 (List.pairwise_cons.1 hs).2).1
    have hf : verC e.at_ f.at_ < 0 := by
      have a1 := h1 f (by simp)
      have a2 : verC e.at_ f.at_ ≠ 0 := fun e0 => hn (by simp [nextSame, e0])
      omega
    intro e' he'
    rcases List.mem_cons.1 he' with rfl | he'
    · exact hf
    · exact v_lt_le hf (h2 e' he')

theorem swT_tog (wt : (Nat → Int) → Bool) (E : List Ed) (h : V → Bool) (hh : ∀ x, h x = wt (fun j => sumB E j x)) (hs : SortedE E) :
    ∀ (r pre : List Ed) (on : Bool), E = pre ++ r → swT wt (fun j => tot pre j) on r = tog h on (poss r)
  | [], pre, on, hE => rfl
  | e :: r, pre, on, hE => by
    have hE' : E = (pre ++ [e]) ++ r := by rw [hE]; simp
    have hb : upd (fun j => tot pre j) e.l e.d = fun j => tot (pre ++ [e]) j := by
      funext j
      rw [tot_app]
      unfold upd
      by_cases hj : j = e.l
      · simp [tot, hj]
      · simp [tot, hj]
    have ih := fun on => swT_tog wt E h hh hs r (pre ++ [e]) on hE'
    unfold swT poss
    rw [hb]
    by_cases hn : nextSame e r = true
    · rw [if_pos hn, if_pos hn]; exact ih on
    · rw [if_neg hn, if_neg hn]
      have hw : wt (fun j => tot (pre ++ [e]) j) = h e.at_ := by
        rw [hh]
        congr 1
        funext j
        rw [hE', sumB_app]
        have hsr : SortedE (e :: r) := by rw [hE] at hs; exact (List.pairwise_append.1 hs).2.1
        have hpre : ∀ e' ∈ pre ++ [e], verC e'.at_ e.at_ ≤ 0 := by
          intro e' he'
          rcases List.mem_append.1 he' with h1 | h1
          · rw [hE] at hs; exact (List.pairwise_append.1 hs).2.2 e' h1 e (by simp)
          · simp at h1; rw [h1, v_self]; omega
        have hr := behind_all hsr hn
        rw [sumB_all _ j _ hpre, sumB_none r j _ (fun e' he' => by have := hr e' he'; have := v_anti e.at_ e'.at_; omega)]
        omega
      rw [hw]
      unfold tog
      by_cases ho : h e.at_ = on
      · rw [if_pos ho, if_pos ho]; exact ih on
      · rw [if_neg ho, if_neg ho, ih]

theorem poss_mem (E : List Ed) (hs : SortedE E) : (∀ p ∈ poss E, ∃ e ∈ E, e.at_ = p) ∧ (∀ e ∈ E, ∃ p ∈ poss E, verC e.at_ p = 0) := by
  induction E with
  | nil => exact ⟨by simp [poss], by simp⟩
  | cons e r ih =>
    obtain ⟨i1, i2⟩ := ih (List.pairwise_cons.1 hs).2
    unfold poss
    by_cases hn : nextSame e r = true
    · rw [if_pos hn]
      refine ⟨fun p hp => ?_, fun e' he' => ?_⟩
      · obtain ⟨e', h1, h2⟩ := i1 p hp; exact ⟨e', by simp [h1], h2⟩
      · rcases List.mem_cons.1 he' with rfl | he'
        · cases r with
          | nil => simp [nextSame] at hn
          | cons f r =>
            have hf : verC e'.at_ f.at_ = 0 := by simpa [nextSame] using hn
            obtain ⟨p, hp, h0⟩ := i2 f (by simp)
            exact ⟨p, hp, by have := (good_ver.trans e'.at_ f.at_ p (by omega) (by omega)).2.1 ⟨hf, h0⟩; exact this⟩
        · exact i2 e' he'
    · rw [if_neg hn]
      refine ⟨fun p hp => ?_, fun e' he' => ?_⟩
      · rcases List.mem_cons.1 hp with rfl | hp
        · exact ⟨e, by simp, rfl⟩
        · obtain ⟨e', h1, h2⟩ := i1 p hp; exact ⟨e', by simp [h1], h2⟩
      · rcases List.mem_cons.1 he' with rfl | he'
        · exact ⟨e'.at_, by simp, v_self _⟩
        · obtain ⟨p, hp, h0⟩ := i2 e' he'; exact ⟨p, by simp [hp], h0⟩
theorem poss_rising (E : List Ed) (hs : SortedE E) : Rising (poss E) := by
  induction E with
  | nil => exact List.Pairwise.nil
  | cons e r ih =>
    have hr := (List.pairwise_cons.1 hs).2
    unfold poss
    by_cases hn : nextSame e r = true
    · rw [if_pos hn]; exact ih hr
    · rw [if_neg hn]
      refine List.pairwise_cons.2 ⟨fun p hp => ?_, ih hr⟩
      obtain ⟨e', h1, rfl⟩ := (poss_mem r hr).1 p hp
      exact behind_all hs hn e' h1
end Go.Proofs.YtkafaocbeankiaaGreatDoor
