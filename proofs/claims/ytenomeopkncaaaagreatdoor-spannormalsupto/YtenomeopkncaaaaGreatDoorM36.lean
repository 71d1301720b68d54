import Derived.Test.YtenomeopkncaaaaGreatDoorM31
import Derived.Test.YtenomeopkncaaaaGreatDoorM32
import Derived.Test.YtenomeopkncaaaaGreatDoorM35
/-
  SpanBoth, walked.
-/
namespace Go.Proofs.YtenomeopkncaaaaGreatDoor
open Go.RowKit
set_option linter.unusedVariables false

/-- what a sweep answers, the list named -/
def XPost (σ : Bool) (N : List Sp) (w : World) (e : Ending) (w' : World) : Prop := w.grownBy w' none ∧ ((σ = false ∧ e = .returned (.tuple #[.slice none 0 0, .int .i64 2])) ∨ (σ = true ∧ ∃ o n c, e = .returned (.tuple #[.slice o n c, .int .i64 0]) ∧ SpS w' (.slice o n c) N ∧ NF N ∧ w'.ownsRow w.heap.size 31 11 (.slice o n c) N.length (N.flatMap spC)))
theorem sweep_xpost {ch : Int → Bool} (h0 : ch 0 = false) {Ls : List (List Sp)} {f : V → Bool} {w : World} {e : Ending} {w' : World} (hl2 : Ls.length ≤ 2) (hsz : ∀ l ∈ Ls, l.length ≤ 1048576 ∧ ∀ s ∈ l, smallS s) (hf : ∀ x, ch (haveN (Ls.map (·.map toSg)) x) = f x) (h : SweepPost ch Ls w e w') : XPost (Ls.all (·.all soundS)) (outs (tog f false (bnd Ls.flatten))) w e w' := by
  refine ⟨h.1, ?_⟩
  rcases h.2 with ⟨h1, h2⟩ | ⟨h1, E, vs, h2, h3, h4, h5, h6⟩
  · exact Or.inl ⟨Bool.eq_false_iff.2 h1, h2⟩
  · obtain ⟨o, n, c, rfl⟩ := sps_slice h5
    have hnf := sweep_nf ch Ls hl2 hsz h1 E h2 h3
    have he := sweep_bnd ch h0 Ls h1 E h2 h3
    have hff : (fun x => ch (haveN (Ls.map (·.map toSg)) x)) = f := funext hf
    rw [he, hff] at h5 h6 hnf
    exact Or.inr ⟨h1, o, n, c, h4, h5, hnf, h6⟩
theorem xNormal (sl : Value) (L : List Sp) (w : World) (h : SpS w sl L) (hL : L.length ≤ 1048576) (hsz : ∀ s ∈ L, smallS s) : Calls Tryz.prog 6 #[sl] w (XPost (L.all soundS) (outs (tog (holdsL L) false (bnd L))) w) := by
  refine (normal_any sl L w h hL hsz).mono ?_
  intro e w' hp
  have := sweep_xpost (by decide) (by simp) (by intro l hl; simp at hl; subst hl; exact ⟨hL, hsz⟩) (fun x => have_one L x) hp
  simpa using this
theorem xMeet (sl sm : Value) (L M : List Sp) (w : World) (h : SpS w sl L) (h' : SpS w sm M) (hL : L.length ≤ 1048576) (hsz : ∀ s ∈ L, smallS s) (hM : M.length ≤ 1048576) (hsm : ∀ s ∈ M, smallS s) : Calls Tryz.prog 11 #[sl, sm] w (XPost (L.all soundS && M.all soundS) (outs (tog (hadB true L M) false (bnd (L ++ M)))) w) := by
  refine (meet_any sl sm L M w h h' hL hsz hM hsm).mono ?_
  intro e w' hp
  have := sweep_xpost (f := hadB true L M) (by decide) (by simp) (by intro l hl; simp at hl; rcases hl with rfl | rfl <;> first | exact ⟨hL, hsz⟩ | exact ⟨hM, hsm⟩) (fun x => by rw [show ([L, M].map (·.map toSg)) = [L.map toSg, M.map toSg] from rfl, have_all L M x]; unfold hadB; cases holdsL L x <;> cases holdsL M x <;> rfl) hp
  simpa using this
theorem xJoin (sl sm : Value) (L M : List Sp) (w : World) (h : SpS w sl L) (h' : SpS w sm M) (hL : L.length ≤ 1048576) (hsz : ∀ s ∈ L, smallS s) (hM : M.length ≤ 1048576) (hsm : ∀ s ∈ M, smallS s) : Calls Tryz.prog 12 #[sl, sm] w (XPost (L.all soundS && M.all soundS) (outs (tog (hadB false L M) false (bnd (L ++ M)))) w) := by
  refine (join_any sl sm L M w h h' hL hsz hM hsm).mono ?_
  intro e w' hp
  have := sweep_xpost (f := hadB false L M) (by decide) (by simp) (by intro l hl; simp at hl; rcases hl with rfl | rfl <;> first | exact ⟨hL, hsz⟩ | exact ⟨hM, hsm⟩) (fun x => by rw [show ([L, M].map (·.map toSg)) = [L.map toSg, M.map toSg] from rfl, have_some L M x]; unfold hadB; cases holdsL L x <;> cases holdsL M x <;> rfl) hp
  simpa using this
theorem tog_len (h : V → Bool) (D : List V) : (tog h false D).length ≤ D.length := (tog_sub_list h D false).length_le
theorem outs_bnd_len (h : V → Bool) (L : List Sp) (hL : L.length ≤ 1048576) : (outs (tog h false (bnd L))).length ≤ 1048576 := by
  have h1 := outs_len2 (tog h false (bnd L))
  have h2 := tog_len h (bnd L)
  have h3 := bnd_len L []
  have h4 : (bnd L).length ≤ 2 * L.length := by unfold bnd; simpa using h3
  omega
/-- spans, and where they lie -/
theorem cSpansO (sl : Value) (L : List Sp) (w : World) (h : SpS w sl L) (hL : L.length ≤ 1048576) :
    Calls Tryz.prog 5 #[sl] w fun e w' => ∃ o n c, e = .returned (.slice o n c) ∧ SpS w' (.slice o n c) L ∧ w'.ownsRow w.heap.size 31 11 (.slice o n c) L.length (L.flatMap spC) ∧ w.grownBy w' none := by
  rcases h with ⟨rfl, rfl⟩ | ⟨a, cap, rfl, h2, h3⟩
  · refine (spans_nil w).mono ?_
    rintro e w' ⟨v, rfl, ho, hb⟩
    obtain ⟨o, n, c, rfl⟩ := sps_slice (sps_own ho)
    exact ⟨o, n, c, rfl, sps_own ho, ho, below_gb' hb⟩
  · refine (spans_at a cap L w hL h2 h3).mono ?_
    rintro e w' ⟨v, rfl, ho, hb⟩
    obtain ⟨o, n, c, rfl⟩ := sps_slice (sps_own ho)
    exact ⟨o, n, c, rfl, sps_own ho, ho, below_gb' hb⟩

set_option maxRecDepth 100000 in
set_option maxHeartbeats 6400000 in
theorem bothLaw (sl sm : Value) (L M : List Sp) (w : World) (h : SpS w sl L) (h' : SpS w sm M) (hLM : L.length + M.length ≤ 1048576) (hsz : ∀ s ∈ L, smallS s) (hsm : ∀ s ∈ M, smallS s) :
    Calls Tryz.prog 4 #[sl, sm] w fun e w' => e = .returned (.bool true) ∧ w.grownBy w' none := by
  obtain ⟨σ, hσ⟩ : ∃ σ, L.all soundS = σ := ⟨_, rfl⟩
  obtain ⟨τ, hτ⟩ : ∃ σ, M.all soundS = σ := ⟨_, rfl⟩
  have hbl := outs_bnd_len (hadB true L M) (L ++ M) (by rw [List.length_append]; omega)
  have hbj := outs_bnd_len (hadB false L M) (L ++ M) (by rw [List.length_append]; omega)
  obtain ⟨NM, hNM⟩ : ∃ N, outs (tog (hadB true L M) false (bnd (L ++ M))) = N := ⟨_, rfl⟩
  obtain ⟨NJ, hNJ⟩ : ∃ N, outs (tog (hadB false L M) false (bnd (L ++ M))) = N := ⟨_, rfl⟩
  rw [hNM] at hbl
  rw [hNJ] at hbj
  have AL : Hid (∀ w v, SpS w v L → Calls Tryz.prog 5 #[v] w fun e w' => ∃ o n c, e = .returned (.slice o n c) ∧ SpS w' (.slice o n c) L ∧ w'.ownsRow w.heap.size 31 11 (.slice o n c) L.length (L.flatMap spC) ∧ w.grownBy w' none) := fun w v h => cSpansO v L w h (by omega)
  have AM : Hid (∀ w v, SpS w v M → Calls Tryz.prog 5 #[v] w fun e w' => ∃ o n c, e = .returned (.slice o n c) ∧ SpS w' (.slice o n c) M ∧ w'.ownsRow w.heap.size 31 11 (.slice o n c) M.length (M.flatMap spC) ∧ w.grownBy w' none) := fun w v h => cSpansO v M w h (by omega)
  have AP : Hid (∀ w v, SpS w v NM → Calls Tryz.prog 5 #[v] w fun e w' => ∃ o n c, e = .returned (.slice o n c) ∧ SpS w' (.slice o n c) NM ∧ w'.ownsRow w.heap.size 31 11 (.slice o n c) NM.length (NM.flatMap spC) ∧ w.grownBy w' none) := fun w v h => cSpansO v NM w h hbl
  have AQ : Hid (∀ w v, SpS w v NJ → Calls Tryz.prog 5 #[v] w fun e w' => ∃ o n c, e = .returned (.slice o n c) ∧ SpS w' (.slice o n c) NJ ∧ w'.ownsRow w.heap.size 31 11 (.slice o n c) NJ.length (NJ.flatMap spC) ∧ w.grownBy w' none) := fun w v h => cSpansO v NJ w h hbj
  have BL : Hid (∀ w v, SpS w v L → Calls Tryz.prog 8 #[v] w fun e w' => e = .returned (.bool σ) ∧ w.grownBy w' none) := fun w v h => by rw [← hσ]; exact cSoundR v L w h (by omega) hsz
  have BM : Hid (∀ w v, SpS w v M → Calls Tryz.prog 8 #[v] w fun e w' => e = .returned (.bool τ) ∧ w.grownBy w' none) := fun w v h => by rw [← hτ]; exact cSoundR v M w h (by omega) hsm
  have CM : Hid (∀ w a b, SpS w a L → SpS w b M → Calls Tryz.prog 11 #[a, b] w (XPost (σ && τ) NM w)) := fun w a b h h' => by rw [← hσ, ← hτ, ← hNM]; exact xMeet a b L M w h h' (by omega) hsz (by omega) hsm
  have CJ : Hid (∀ w a b, SpS w a L → SpS w b M → Calls Tryz.prog 12 #[a, b] w (XPost (σ && τ) NJ w)) := fun w a b h h' => by rw [← hσ, ← hτ, ← hNJ]; exact xJoin a b L M w h h' (by omega) hsz (by omega) hsm
  have RM : Hid (∀ w a b, SpS w a L → SpS w b M → Calls Tryz.prog 13 #[a, b, .bool true] w fun e w' => ∃ vo, e = .returned vo ∧ SpS w' vo NM ∧ w.grownBy w' none) := fun w a b h h' => by rw [← hNM]; exact both_any a b true L M w h h' (by omega) hsz (by omega) hsm
  have RJ : Hid (∀ w a b, SpS w a L → SpS w b M → Calls Tryz.prog 13 #[a, b, .bool false] w fun e w' => ∃ vo, e = .returned vo ∧ SpS w' vo NJ ∧ w.grownBy w' none) := fun w a b h h' => by rw [← hNJ]; exact both_any a b false L M w h h' (by omega) hsz (by omega) hsm
  have CE : Hid (∀ N a b w, NF N → SpS w a N → SpS w b N → Calls Tryz.prog 7 #[a, b] w fun e w' => e = .returned (.bool true) ∧ w.grownBy w' none) := fun N a b w hN h h' => by
    refine (cEqualG a b N N w h h' hN.len).mono ?_
    rintro e w' ⟨⟨r, rfl, hr⟩, hg⟩
    exact ⟨by rw [hr.2 rfl], hg⟩
  have CN : Hid (∀ E w, Calls Tryz.prog 9 #[.int .i64 E] w fun e w' => e = .returned (.int .i64 E) ∧ w.grownBy w' none) := fun E w => lnum_gb E w
  have HA : Hid (SpS w sl L) := h
  have HB : Hid (SpS w sm M) := h'
  have HG : Hid (w.grownBy w none) := gb_refl w none
  clear h h' hLM hsz hsm hσ hτ hNM hNJ hbl hbj
  go_enter Tryz.func4, Tryz.ntmps4
  go_wp2_with (first | (go_at_call 5; refine (AL.out _ _ HA.out).mono ?_))
  rintro e w1 ⟨o1, n1, c1, rfl, hm, _, hg⟩
  replace HG : Hid (w.grownBy w1 none) := gb_trans HG.out hg
  replace HA : Hid (SpS w1 sl L) := (HA.out).grow hg
  replace HB : Hid (SpS w1 sm M) := (HB.out).grow hg
  have H1 : Hid (SpS w1 (.slice o1 n1 c1) L) := hm
  clear hg
  clear hm
  go_wp2_with (first | (go_at_call 5; refine (AM.out _ _ HB.out).mono ?_))
  rintro e w2 ⟨o2, n2, c2, rfl, hm, _, hg⟩
  replace HG : Hid (w.grownBy w2 none) := gb_trans HG.out hg
  replace HA : Hid (SpS w2 sl L) := (HA.out).grow hg
  replace HB : Hid (SpS w2 sm M) := (HB.out).grow hg
  replace H1 : Hid (SpS w2 (.slice o1 n1 c1) L) := (H1.out).grow hg
  have H2 : Hid (SpS w2 (.slice o2 n2 c2) M) := hm
  clear hg
  clear hm
  go_wp2_with (first | (go_at_call 11; refine (CM.out _ _ _ H1.out H2.out).mono ?_))
  rintro e w3 ⟨hg, hn⟩
  replace HG : Hid (w.grownBy w3 none) := gb_trans HG.out hg
  replace HA : Hid (SpS w3 sl L) := (HA.out).grow hg
  replace HB : Hid (SpS w3 sm M) := (HB.out).grow hg
  replace H1 : Hid (SpS w3 (.slice o1 n1 c1) L) := (H1.out).grow hg
  replace H2 : Hid (SpS w3 (.slice o2 n2 c2) M) := (H2.out).grow hg
  clear hg
  clear H1 H2
  rcases hn with ⟨hst, rfl⟩ | ⟨hst, o3, n3, c3, rfl, hs3, hf3, _⟩
  · go_wp2_with (first | (go_at_call 5; refine (AL.out _ _ HA.out).mono ?_))
    rintro e w4 ⟨o4, n4, c4, rfl, hm, _, hg⟩
    replace HG : Hid (w.grownBy w4 none) := gb_trans HG.out hg
    replace HA : Hid (SpS w4 sl L) := (HA.out).grow hg
    replace HB : Hid (SpS w4 sm M) := (HB.out).grow hg
    have H1 : Hid (SpS w4 (.slice o4 n4 c4) L) := hm
    clear hg
    clear hm
    go_wp2_with (first | (go_at_call 5; refine (AM.out _ _ HB.out).mono ?_))
    rintro e w5 ⟨o5, n5, c5, rfl, hm, _, hg⟩
    replace HG : Hid (w.grownBy w5 none) := gb_trans HG.out hg
    replace HA : Hid (SpS w5 sl L) := (HA.out).grow hg
    replace HB : Hid (SpS w5 sm M) := (HB.out).grow hg
    replace H1 : Hid (SpS w5 (.slice o4 n4 c4) L) := (H1.out).grow hg
    have H2 : Hid (SpS w5 (.slice o5 n5 c5) M) := hm
    clear hg
    clear hm
    go_wp2_with (first | (go_at_call 12; refine (CJ.out _ _ _ H1.out H2.out).mono ?_))
    rintro e w6 ⟨hg, hn⟩
    replace HG : Hid (w.grownBy w6 none) := gb_trans HG.out hg
    replace HA : Hid (SpS w6 sl L) := (HA.out).grow hg
    replace HB : Hid (SpS w6 sm M) := (HB.out).grow hg
    replace H1 : Hid (SpS w6 (.slice o4 n4 c4) L) := (H1.out).grow hg
    replace H2 : Hid (SpS w6 (.slice o5 n5 c5) M) := (H2.out).grow hg
    clear hg
    clear H1 H2
    rcases hn with ⟨_, rfl⟩ | ⟨hx, _⟩
    rotate_left
    · rw [hst] at hx; cases hx
    go_wp2_with (first | (go_at_call 8; refine (BL.out _ _ HA.out).mono ?_))
    rintro e w7 ⟨rfl, hg⟩
    replace HG : Hid (w.grownBy w7 none) := gb_trans HG.out hg
    replace HA : Hid (SpS w7 sl L) := (HA.out).grow hg
    replace HB : Hid (SpS w7 sm M) := (HB.out).grow hg
    clear hg
    go_wp2_with (first | (go_at_call 8; refine (BM.out _ _ HB.out).mono ?_))
    rintro e w8 ⟨rfl, hg⟩
    replace HG : Hid (w.grownBy w8 none) := gb_trans HG.out hg
    replace HA : Hid (SpS w8 sl L) := (HA.out).grow hg
    replace HB : Hid (SpS w8 sm M) := (HB.out).grow hg
    clear hg
    clear HA HB
    cases σ with
    | false =>
      cases τ with
      | false =>
        clear hst
        go_wp2_with (first | (go_at_call 9; refine (CN.out _ _).mono ?_))
        rintro e w9 ⟨rfl, hg⟩
        replace HG : Hid (w.grownBy w9 none) := gb_trans HG.out hg
        clear hg
        go_wp2_with (first | (go_at_call 9; refine (CN.out _ _).mono ?_))
        rintro e w10 ⟨rfl, hg⟩
        replace HG : Hid (w.grownBy w10 none) := gb_trans HG.out hg
        clear hg
        go_wp2
        go_ret
        exact ⟨rfl, HG.out⟩
      | true =>
        clear hst
        go_wp2_with (first | (go_at_call 9; refine (CN.out _ _).mono ?_))
        rintro e w9 ⟨rfl, hg⟩
        replace HG : Hid (w.grownBy w9 none) := gb_trans HG.out hg
        clear hg
        go_wp2_with (first | (go_at_call 9; refine (CN.out _ _).mono ?_))
        rintro e w10 ⟨rfl, hg⟩
        replace HG : Hid (w.grownBy w10 none) := gb_trans HG.out hg
        clear hg
        go_wp2
        go_ret
        exact ⟨rfl, HG.out⟩
    | true =>
      cases τ with
      | false =>
        clear hst
        go_wp2_with (first | (go_at_call 9; refine (CN.out _ _).mono ?_))
        rintro e w9 ⟨rfl, hg⟩
        replace HG : Hid (w.grownBy w9 none) := gb_trans HG.out hg
        clear hg
        go_wp2_with (first | (go_at_call 9; refine (CN.out _ _).mono ?_))
        rintro e w10 ⟨rfl, hg⟩
        replace HG : Hid (w.grownBy w10 none) := gb_trans HG.out hg
        clear hg
        go_wp2
        go_ret
        exact ⟨rfl, HG.out⟩
      | true =>
        exact absurd hst (by decide)
  · have HM : Hid (SpS w3 (.slice o3 n3 c3) NM) := hs3
    have FM : Hid (NF NM) := hf3
    clear hs3 hf3
    go_wp2_with (first | (go_at_call 5; refine (AL.out _ _ HA.out).mono ?_))
    rintro e w4 ⟨o4, n4, c4, rfl, hm, _, hg⟩
    replace HG : Hid (w.grownBy w4 none) := gb_trans HG.out hg
    replace HA : Hid (SpS w4 sl L) := (HA.out).grow hg
    replace HB : Hid (SpS w4 sm M) := (HB.out).grow hg
    replace HM : Hid (SpS w4 (.slice o3 n3 c3) NM) := (HM.out).grow hg
    have H1 : Hid (SpS w4 (.slice o4 n4 c4) L) := hm
    clear hg
    clear hm
    go_wp2_with (first | (go_at_call 5; refine (AM.out _ _ HB.out).mono ?_))
    rintro e w5 ⟨o5, n5, c5, rfl, hm, _, hg⟩
    replace HG : Hid (w.grownBy w5 none) := gb_trans HG.out hg
    replace HA : Hid (SpS w5 sl L) := (HA.out).grow hg
    replace HB : Hid (SpS w5 sm M) := (HB.out).grow hg
    replace HM : Hid (SpS w5 (.slice o3 n3 c3) NM) := (HM.out).grow hg
    replace H1 : Hid (SpS w5 (.slice o4 n4 c4) L) := (H1.out).grow hg
    have H2 : Hid (SpS w5 (.slice o5 n5 c5) M) := hm
    clear hg
    clear hm
    go_wp2_with (first | (go_at_call 12; refine (CJ.out _ _ _ H1.out H2.out).mono ?_))
    rintro e w6 ⟨hg, hn⟩
    replace HG : Hid (w.grownBy w6 none) := gb_trans HG.out hg
    replace HA : Hid (SpS w6 sl L) := (HA.out).grow hg
    replace HB : Hid (SpS w6 sm M) := (HB.out).grow hg
    replace HM : Hid (SpS w6 (.slice o3 n3 c3) NM) := (HM.out).grow hg
    replace H1 : Hid (SpS w6 (.slice o4 n4 c4) L) := (H1.out).grow hg
    replace H2 : Hid (SpS w6 (.slice o5 n5 c5) M) := (H2.out).grow hg
    clear hg
    clear H1 H2
    rcases hn with ⟨hx, _⟩ | ⟨_, o6, n6, c6, rfl, hs6, hf6, _⟩
    · rw [hst] at hx; cases hx
    have HJ : Hid (SpS w6 (.slice o6 n6 c6) NJ) := hs6
    have FJ : Hid (NF NJ) := hf6
    clear hs6 hf6
    go_wp2_with (first | (go_at_call 8; refine (BL.out _ _ HA.out).mono ?_))
    rintro e w7 ⟨rfl, hg⟩
    replace HG : Hid (w.grownBy w7 none) := gb_trans HG.out hg
    replace HA : Hid (SpS w7 sl L) := (HA.out).grow hg
    replace HB : Hid (SpS w7 sm M) := (HB.out).grow hg
    replace HM : Hid (SpS w7 (.slice o3 n3 c3) NM) := (HM.out).grow hg
    replace HJ : Hid (SpS w7 (.slice o6 n6 c6) NJ) := (HJ.out).grow hg
    clear hg
    go_wp2_with (first | (go_at_call 8; refine (BM.out _ _ HB.out).mono ?_))
    rintro e w8 ⟨rfl, hg⟩
    replace HG : Hid (w.grownBy w8 none) := gb_trans HG.out hg
    replace HA : Hid (SpS w8 sl L) := (HA.out).grow hg
    replace HB : Hid (SpS w8 sm M) := (HB.out).grow hg
    replace HM : Hid (SpS w8 (.slice o3 n3 c3) NM) := (HM.out).grow hg
    replace HJ : Hid (SpS w8 (.slice o6 n6 c6) NJ) := (HJ.out).grow hg
    clear hg
    obtain ⟨rfl, rfl⟩ : σ = true ∧ τ = true := by simpa using hst
    clear hst
    go_wp2_with (first | (go_at_call 13; refine (RM.out _ _ _ HA.out HB.out).mono ?_))
    rintro e w9 ⟨vp, rfl, hm, hg⟩
    replace HG : Hid (w.grownBy w9 none) := gb_trans HG.out hg
    replace HA : Hid (SpS w9 sl L) := (HA.out).grow hg
    replace HB : Hid (SpS w9 sm M) := (HB.out).grow hg
    replace HM : Hid (SpS w9 (.slice o3 n3 c3) NM) := (HM.out).grow hg
    replace HJ : Hid (SpS w9 (.slice o6 n6 c6) NJ) := (HJ.out).grow hg
    have HP : Hid (SpS w9 vp NM) := hm
    clear hg
    clear hm
    go_wp2_with (first | (go_at_call 5; refine (AP.out _ _ HP.out).mono ?_))
    rintro e w10 ⟨o7, n7, c7, rfl, hm, _, hg⟩
    replace HG : Hid (w.grownBy w10 none) := gb_trans HG.out hg
    replace HA : Hid (SpS w10 sl L) := (HA.out).grow hg
    replace HB : Hid (SpS w10 sm M) := (HB.out).grow hg
    replace HM : Hid (SpS w10 (.slice o3 n3 c3) NM) := (HM.out).grow hg
    replace HJ : Hid (SpS w10 (.slice o6 n6 c6) NJ) := (HJ.out).grow hg
    replace HP : Hid (SpS w10 vp NM) := (HP.out).grow hg
    have HP2 : Hid (SpS w10 (.slice o7 n7 c7) NM) := hm
    clear hg
    clear hm
    clear HP
    go_wp2_with (first | (go_at_call 13; refine (RJ.out _ _ _ HA.out HB.out).mono ?_))
    rintro e w11 ⟨vq, rfl, hm, hg⟩
    replace HG : Hid (w.grownBy w11 none) := gb_trans HG.out hg
    replace HA : Hid (SpS w11 sl L) := (HA.out).grow hg
    replace HB : Hid (SpS w11 sm M) := (HB.out).grow hg
    replace HM : Hid (SpS w11 (.slice o3 n3 c3) NM) := (HM.out).grow hg
    replace HJ : Hid (SpS w11 (.slice o6 n6 c6) NJ) := (HJ.out).grow hg
    replace HP2 : Hid (SpS w11 (.slice o7 n7 c7) NM) := (HP2.out).grow hg
    have HQ : Hid (SpS w11 vq NJ) := hm
    clear hg
    clear hm
    clear HA HB
    go_wp2_with (first | (go_at_call 5; refine (AQ.out _ _ HQ.out).mono ?_))
    rintro e w12 ⟨o8, n8, c8, rfl, hm, _, hg⟩
    replace HG : Hid (w.grownBy w12 none) := gb_trans HG.out hg
    replace HM : Hid (SpS w12 (.slice o3 n3 c3) NM) := (HM.out).grow hg
    replace HJ : Hid (SpS w12 (.slice o6 n6 c6) NJ) := (HJ.out).grow hg
    replace HP2 : Hid (SpS w12 (.slice o7 n7 c7) NM) := (HP2.out).grow hg
    replace HQ : Hid (SpS w12 vq NJ) := (HQ.out).grow hg
    have HQ2 : Hid (SpS w12 (.slice o8 n8 c8) NJ) := hm
    clear hg
    clear hm
    clear HQ
    go_wp2_with (first | (go_at_call 7; refine (CE.out NM _ _ _ FM.out HM.out HP2.out).mono ?_))
    rintro e w13 ⟨rfl, hg⟩
    replace HG : Hid (w.grownBy w13 none) := gb_trans HG.out hg
    replace HM : Hid (SpS w13 (.slice o3 n3 c3) NM) := (HM.out).grow hg
    replace HJ : Hid (SpS w13 (.slice o6 n6 c6) NJ) := (HJ.out).grow hg
    replace HP2 : Hid (SpS w13 (.slice o7 n7 c7) NM) := (HP2.out).grow hg
    replace HQ2 : Hid (SpS w13 (.slice o8 n8 c8) NJ) := (HQ2.out).grow hg
    clear hg
    clear HM HP2
    go_wp2_with (first | (go_at_call 7; refine (CE.out NJ _ _ _ FJ.out HJ.out HQ2.out).mono ?_))
    rintro e w14 ⟨rfl, hg⟩
    replace HG : Hid (w.grownBy w14 none) := gb_trans HG.out hg
    replace HJ : Hid (SpS w14 (.slice o6 n6 c6) NJ) := (HJ.out).grow hg
    replace HQ2 : Hid (SpS w14 (.slice o8 n8 c8) NJ) := (HQ2.out).grow hg
    clear hg
    clear HJ HQ2
    go_wp2_with (first | (go_at_call 9; refine (CN.out _ _).mono ?_))
    rintro e w15 ⟨rfl, hg⟩
    replace HG : Hid (w.grownBy w15 none) := gb_trans HG.out hg
    clear hg
    go_wp2_with (first | (go_at_call 9; refine (CN.out _ _).mono ?_))
    rintro e w16 ⟨rfl, hg⟩
    replace HG : Hid (w.grownBy w16 none) := gb_trans HG.out hg
    clear hg
    go_wp2
    go_ret
    exact ⟨rfl, HG.out⟩
end Go.Proofs.YtenomeopkncaaaaGreatDoor
