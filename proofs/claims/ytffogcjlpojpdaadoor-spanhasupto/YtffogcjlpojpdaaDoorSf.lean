/-
  SpanHolds, walked.
-/
import Derived.Test.YtffogcjlpojpdaaDoorSe
namespace Go.Proofs.YtffogcjlpojpdaaDoor
open Go.RowKit
set_option linter.unusedVariables false

/-- the slice holds the spans -/
def SpS (w : World) (sl : Value) (L : List Sp) : Prop := (sl = .slice none 0 0 ∧ L = []) ∨ ∃ a cap, sl = .slice (some a) L.length cap ∧ L.length ≤ cap ∧ SpAt w a L
theorem SpS.grow {w w' : World} {sl : Value} {L : List Sp} (h : SpS w sl L) (hg : w.grownBy w' none) : SpS w' sl L := by
  rcases h with h | ⟨a, cap, h1, h2, h3⟩
  · exact Or.inl h
  · exact Or.inr ⟨a, cap, h1, h2, h3.grow hg⟩
theorem flat_get (L : List Sp) : ∀ (i : Nat) (hi : i < L.length) (k : Nat) (v : Value), (spC L[i])[k]? = some v → (L.flatMap spC)[i * 11 + k]? = some v := by
  induction L with
  | nil => intro i hi; simp at hi
  | cons s L ih =>
    intro i hi k v h
    rw [List.flatMap_cons]
    have hl : (spC s).length = 11 := rfl
    cases i with
    | zero =>
      simp only [List.getElem_cons_zero] at h
      have hk : k < (spC s).length := (List.getElem?_eq_some_iff.1 h).1
      rw [Nat.zero_mul, Nat.zero_add, List.getElem?_append_left hk]
      exact h
    | succ i =>
      simp only [List.getElem_cons_succ] at h
      rw [List.getElem?_append_right (by rw [hl]; omega), hl, show (i + 1) * 11 + k - 11 = i * 11 + k by omega]
      exact ih i (by simpa using hi) k v h
theorem sps_own {w : World} {base : Nat} {v : Value} {L : List Sp} (h : w.ownsRow base 52 11 v L.length (L.flatMap spC)) : SpS w v L := by
  rcases h.2 with ⟨h1, h2⟩ | ⟨g, cap, cur, h1, hb, hg, hn, hm, hs, ht⟩
  · exact Or.inl ⟨h1, List.length_eq_zero_iff.1 h2⟩
  · refine Or.inr ⟨⟨g, 0, none⟩, cap, h1, hn, fun i hi => elt_of_cells fun k u hu => ?_⟩
    have := flat_get L i hi k u hu
    exact h.cells (g := g) (by rw [h1]; rfl) (i * 11 + k) u this

theorem cSpans (sl : Value) (L : List Sp) (w : World) (h : SpS w sl L) (hL : L.length ≤ 1048576) :
    Calls Tryd.prog 10 #[sl] w fun e w' => ∃ v, e = .returned v ∧ SpS w' v L ∧ w.grownBy w' none := by
  rcases h with ⟨rfl, rfl⟩ | ⟨a, cap, rfl, h2, h3⟩
  · refine (spans_nil w).mono ?_
    rintro e w' ⟨v, rfl, ho, hb⟩
    exact ⟨v, rfl, sps_own ho, below_gb' hb⟩
  · refine (spans_at a cap L w hL h2 h3).mono ?_
    rintro e w' ⟨v, rfl, ho, hb⟩
    exact ⟨v, rfl, sps_own ho, below_gb' hb⟩
theorem cSoundR (sl : Value) (L : List Sp) (w : World) (h : SpS w sl L) (hL : L.length ≤ 1048576) (hsz : ∀ s ∈ L, smallS s) :
    Calls Tryd.prog 14 #[sl] w fun e w' => e = .returned (.bool (L.all soundS)) ∧ w.grownBy w' none := by
  rcases h with ⟨rfl, rfl⟩ | ⟨a, cap, rfl, h2, h3⟩
  · exact soundSpans_nil w
  · exact soundSpans_at a cap L w (by omega) h2 h3 hsz
theorem cSoundP (sl : Value) (L : List Sp) (w : World) (h : SpS w sl L) (hL : L.length ≤ 1048576) (hsz : ∀ s ∈ L, smallS s) :
    Calls Tryd.prog 11 #[sl] w fun e w' => e = .returned (.bool (L.all soundS)) ∧ w.grownBy w' none := by
  rcases h with ⟨rfl, rfl⟩ | ⟨a, cap, rfl, h2, h3⟩
  · exact psound_nil w
  · exact psound_at a cap L w (by omega) h2 h3 hsz
theorem cHoldsR (sl : Value) (L : List Sp) (v1 v2 v3 : Int) (v4 v5 : ByteArray) (w : World) (h : SpS w sl L) (hL : L.length ≤ 1048576) (hsz : ∀ s ∈ L, smallS s) (hv : v4.size ≤ 1048576) :
    Calls Tryd.prog 15 #[sl, .agg #[.int .i64 v1, .int .i64 v2, .int .i64 v3, .string v4, .string v5]] w fun e w' => e = .returned (.bool (holdsL L ⟨v1, v2, v3, v4.data.toList⟩)) ∧ w.grownBy w' none := by
  rcases h with ⟨rfl, rfl⟩ | ⟨a, cap, rfl, h2, h3⟩
  · exact rholds_nil v1 v2 v3 v4 v5 w
  · exact rholds_at a cap L v1 v2 v3 v4 v5 w (by omega) h2 h3 hsz hv
theorem cHoldsP (sl : Value) (L : List Sp) (v1 v2 v3 : Int) (v4 v5 : ByteArray) (w : World) (h : SpS w sl L) (hL : L.length ≤ 1048576) (hsz : ∀ s ∈ L, smallS s) (hv : v4.size ≤ 1048576) :
    Calls Tryd.prog 12 #[sl, .agg #[.int .i64 v1, .int .i64 v2, .int .i64 v3, .string v4, .string v5]] w fun e w' => e = .returned (.bool (holdsL L ⟨v1, v2, v3, v4.data.toList⟩)) ∧ w.grownBy w' none := by
  rcases h with ⟨rfl, rfl⟩ | ⟨a, cap, rfl, h2, h3⟩
  · exact pholds_nil v1 v2 v3 v4 v5 w
  · exact pholds_at a cap L v1 v2 v3 v4 v5 w (by omega) h2 h3 hsz hv
theorem cEqual (sl sm : Value) (L : List Sp) (w : World) (h : SpS w sl L) (h' : SpS w sm L) (hL : L.length ≤ 1048576) :
    Calls Tryd.prog 13 #[sl, sm] w fun e w' => e = .returned (.bool true) ∧ w.grownBy w' none := by
  rcases h with ⟨rfl, rfl⟩ | ⟨a, cap, rfl, h2, h3⟩
  · rcases h' with ⟨rfl, _⟩ | ⟨b, cap', rfl, h4, h5⟩
    · exact equal_nil _ _ _ _ w
    · exact equal_nil _ _ _ _ w
  · rcases h' with ⟨rfl, rfl⟩ | ⟨b, cap', rfl, h4, h5⟩
    · exact equal_nil _ _ _ _ w
    · exact equal_at a b cap cap' L w (by omega) h2 h4 h3 h5

set_option maxRecDepth 100000 in
set_option maxHeartbeats 1600000 in
theorem holdsLaw (sl : Value) (L : List Sp) (v1 v2 v3 : Int) (v4 v5 : ByteArray) (w : World) (h : SpS w sl L) (hL : L.length ≤ 1048576) (hsz : ∀ s ∈ L, smallS s) (hv : v4.size ≤ 1048576) :
    Calls Tryd.prog 4 #[sl, .agg #[.int .i64 v1, .int .i64 v2, .int .i64 v3, .string v4, .string v5]] w fun e w' => e = .returned (.bool true) ∧ w.grownBy w' none := by
  obtain ⟨σ, hσ⟩ : ∃ σ, L.all soundS = σ := ⟨_, rfl⟩
  obtain ⟨η, hη⟩ : ∃ η, holdsL L ⟨v1, v2, v3, v4.data.toList⟩ = η := ⟨_, rfl⟩
  have C1 : Hid (∀ sl w, SpS w sl L → Calls Tryd.prog 10 #[sl] w fun e w' => ∃ v, e = .returned v ∧ SpS w' v L ∧ w.grownBy w' none) := fun sl w h => cSpans sl L w h hL
  have C2 : Hid (∀ sl w, SpS w sl L → Calls Tryd.prog 14 #[sl] w fun e w' => e = .returned (.bool σ) ∧ w.grownBy w' none) := fun sl w h => by rw [← hσ]; exact cSoundR sl L w h hL hsz
  have C3 : Hid (∀ sl w, SpS w sl L → Calls Tryd.prog 11 #[sl] w fun e w' => e = .returned (.bool σ) ∧ w.grownBy w' none) := fun sl w h => by rw [← hσ]; exact cSoundP sl L w h hL hsz
  have C4 : Hid (∀ sl w, SpS w sl L → Calls Tryd.prog 15 #[sl, .agg #[.int .i64 v1, .int .i64 v2, .int .i64 v3, .string v4, .string v5]] w fun e w' => e = .returned (.bool η) ∧ w.grownBy w' none) := fun sl w h => by rw [← hη]; exact cHoldsR sl L v1 v2 v3 v4 v5 w h hL hsz hv
  have C5 : Hid (∀ sl w, SpS w sl L → Calls Tryd.prog 12 #[sl, .agg #[.int .i64 v1, .int .i64 v2, .int .i64 v3, .string v4, .string v5]] w fun e w' => e = .returned (.bool η) ∧ w.grownBy w' none) := fun sl w h => by rw [← hη]; exact cHoldsP sl L v1 v2 v3 v4 v5 w h hL hsz hv
  have C6 : Hid (∀ sl sm w, SpS w sl L → SpS w sm L → Calls Tryd.prog 13 #[sl, sm] w fun e w' => e = .returned (.bool true) ∧ w.grownBy w' none) := fun sl sm w h h' => cEqual sl sm L w h h' hL
  have Va : Hid (∀ w, Calls Tryd.prog 9 #[.agg #[.int .i64 v1, .int .i64 v2, .int .i64 v3, .string v4, .string v5]] w fun e w' => e = .returned (.agg #[.int .i64 v1, .int .i64 v2, .int .i64 v3, .string v4, .string v5]) ∧ w.grownBy w' none) := fun w => vers_any _ _ _ _ _ w
  have HA : Hid (SpS w sl L) := h
  clear h hL hsz hv hσ hη
  go_enter Tryd.func4, Tryd.ntmps4
  go_wp2_with (first | (go_at_call 10; refine (C1.out _ _ (HA.out.grow (gb_alloc (gb_refl w none) _))).mono ?_))
  rintro e w1 ⟨m, rfl, hm, hg⟩
  obtain ⟨A, hA⟩ : ∃ A, w.heap.size = A := ⟨_, rfl⟩
  have STv : Hid (St A v1 v2 v3 v4 v5 w1) := by
    show St A v1 v2 v3 v4 v5 w1
    rw [← hA]; exact (st_row (t := 23) (heap_alloc_new w _)).grow hg
  have HG : Hid (w.grownBy w1 none) := gb_trans (gb_alloc (gb_refl w none) _) hg
  have HM : Hid (SpS w1 m L) := hm
  replace HA : Hid (SpS w1 sl L) := HA.out.grow HG.out
  rw [hA]
  clear hA hg hm
  go_wp2_with (first | (go_at_call 11; refine (C3.out _ _ HM.out).mono ?_))
  rintro e w2 ⟨rfl, hg⟩
  replace STv : Hid (St A v1 v2 v3 v4 v5 w2) := STv.out.grow hg
  replace HG : Hid (w.grownBy w2 none) := gb_trans HG.out hg
  replace HM : Hid (SpS w2 m L) := HM.out.grow hg
  replace HA : Hid (SpS w2 sl L) := HA.out.grow hg
  clear hg
  obtain ⟨s1, s2, s3, s4, s5⟩ := STv.out
  go_wp2_with (first | (go_at_call 9; refine (Va.out _).mono ?_))
  rintro e w3 ⟨rfl, hg⟩
  replace STv : Hid (St A v1 v2 v3 v4 v5 w3) := STv.out.grow hg
  replace HG : Hid (w.grownBy w3 none) := gb_trans HG.out hg
  replace HM : Hid (SpS w3 m L) := HM.out.grow hg
  replace HA : Hid (SpS w3 sl L) := HA.out.grow hg
  clear hg
  clear s1 s2 s3 s4 s5
  go_wp2_with (first | (go_at_call 12; refine (C5.out _ _ HM.out).mono ?_))
  rintro e w4 ⟨rfl, hg⟩
  replace STv : Hid (St A v1 v2 v3 v4 v5 w4) := STv.out.grow hg
  replace HG : Hid (w.grownBy w4 none) := gb_trans HG.out hg
  replace HM : Hid (SpS w4 m L) := HM.out.grow hg
  replace HA : Hid (SpS w4 sl L) := HA.out.grow hg
  clear hg
  go_wp2_with (first | (go_at_call 10; refine (C1.out _ _ HA.out).mono ?_))
  rintro e w5 ⟨m2, rfl, hm2, hg⟩
  replace STv : Hid (St A v1 v2 v3 v4 v5 w5) := STv.out.grow hg
  replace HG : Hid (w.grownBy w5 none) := gb_trans HG.out hg
  replace HM : Hid (SpS w5 m L) := HM.out.grow hg
  replace HA : Hid (SpS w5 sl L) := HA.out.grow hg
  have HM2 : Hid (SpS w5 m2 L) := hm2
  clear hm2
  clear hg
  go_wp2_with (first | (go_at_call 13; refine (C6.out _ _ _ HM.out HM2.out).mono ?_))
  rintro e w6 ⟨rfl, hg⟩
  replace STv : Hid (St A v1 v2 v3 v4 v5 w6) := STv.out.grow hg
  replace HG : Hid (w.grownBy w6 none) := gb_trans HG.out hg
  replace HM : Hid (SpS w6 m L) := HM.out.grow hg
  replace HA : Hid (SpS w6 sl L) := HA.out.grow hg
  clear hg
  clear HM2
  obtain ⟨s1, s2, s3, s4, s5⟩ := STv.out
  have q1 : (σ == σ) = true := by simp
  have q2 : (η == η) = true := by simp
  go_wp2_with (first | (go_at_call 14; refine (C2.out _ _ HA.out).mono ?_))
  rintro e w7 ⟨rfl, hg⟩
  replace STv : Hid (St A v1 v2 v3 v4 v5 w7) := STv.out.grow hg
  replace HG : Hid (w.grownBy w7 none) := gb_trans HG.out hg
  replace HA : Hid (SpS w7 sl L) := HA.out.grow hg
  clear hg s1 s2 s3 s4 s5
  obtain ⟨s1, s2, s3, s4, s5⟩ := STv.out
  go_wp2_with (first | (go_at_call 15; refine (C4.out _ _ HA.out).mono ?_))
  rintro e w8 ⟨rfl, hg⟩
  replace HG : Hid (w.grownBy w8 none) := gb_trans HG.out hg
  clear hg
  go_wp2
  go_ret
  exact ⟨rfl, HG.out⟩
end Go.Proofs.YtffogcjlpojpdaaDoor
