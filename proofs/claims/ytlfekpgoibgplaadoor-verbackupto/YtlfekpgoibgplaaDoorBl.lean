/-
  VerBack, walked.
-/
import Derived.Test.YtlfekpgoibgplaaDoorXe
import Derived.Test.YtlfekpgoibgplaaDoorNm
import Derived.Test.YtlfekpgoibgplaaDoorWt
import Derived.Test.YtlfekpgoibgplaaDoorRe
import Derived.Deep.RegionHeld3
namespace Go.Proofs.YtlfekpgoibgplaaDoor
open Go.RowKit
set_option linter.unusedVariables false

theorem pre_le (v : Vv) : v.pre.length ≤ (textV v).length ∧ v.build.length ≤ (textV v).length := by
  unfold textV optT
  constructor
  · split
    · rename_i h; rw [h]; simp
    · simp only [List.length_append, List.length_cons]; omega
  · split <;> split
    · rename_i h; rw [h]; simp
    · simp only [List.length_append, List.length_cons]; omega
    · rename_i h; rw [h]; simp
    · simp only [List.length_append, List.length_cons]; omega
theorem parse_good (l : List UInt8) (h : (parseV l).1 = 0) : l.length ≤ 100 ∧ textV (parseV l).2.2 = l ∧ soundV (parseV l).2.2 = true := by
  unfold parseV at h ⊢
  by_cases hl : 100 < l.length
  · rw [if_pos hl] at h; exact absurd h (by show ¬ (1 : Int) = 0; decide)
  · rw [if_neg hl] at h ⊢
    obtain ⟨h1, h2⟩ := text_read l h
    exact ⟨by omega, h1, h2⟩
theorem parse_back (v : Vv) (hs : soundV v = true) (h1 : v.major ≤ 999999999) (h2 : v.minor ≤ 999999999) (h3 : v.patch ≤ 999999999) (hl : (textV v).length ≤ 100) : parseV (textV v) = (0, 0, v) := by
  unfold parseV
  rw [if_neg (by omega)]
  exact read_text v hs h1 h2 h3
theorem sound_bounds {v : Vv} (h : soundV v = true) : (0 ≤ v.major ∧ v.major ≤ 1000000000) ∧ (0 ≤ v.minor ∧ v.minor ≤ 1000000000) ∧ (0 ≤ v.patch ∧ v.patch ≤ 1000000000) := by
  simp only [soundV, Bool.and_eq_true, bound_iff] at h
  exact ⟨h.1, h.2.1, h.2.2.1⟩

set_option maxRecDepth 100000 in
set_option maxHeartbeats 3200000 in
theorem backLaw (s : ByteArray) (a1 a2 a3 : Int) (a4 a5 : ByteArray) (w : World) (ht : Tab w) (b1 : -9223372036854775808 ≤ a1 ∧ a1 ≤ 9223372036854775807) (b2 : -9223372036854775808 ≤ a2 ∧ a2 ≤ 9223372036854775807) (b3 : -9223372036854775808 ≤ a3 ∧ a3 ≤ 9223372036854775807) (hs : s.size < 2 ^ 62) (ha : a4.size ≤ 1048576) (hb : a5.size ≤ 1048576) :
    Calls Tryd.prog 5 #[.string s, .agg #[.int .i64 a1, .int .i64 a2, .int .i64 a3, .string a4, .string a5]] w fun e w' => e = .returned (.bool true) ∧ w.grownBy w' none := by
  obtain ⟨E, Q, x1, x2, x3, P0, B0, hX⟩ : ∃ E Q x1 x2 x3 P B, parseV s.data.toList = (E, Q, ⟨x1, x2, x3, P, B⟩) := ⟨_, _, _, _, _, _, _, rfl⟩
  obtain ⟨P, hP⟩ : ∃ P : ByteArray, P = ⟨P0.toArray⟩ := ⟨_, rfl⟩
  obtain ⟨B, hB⟩ : ∃ B : ByteArray, B = ⟨B0.toArray⟩ := ⟨_, rfl⟩
  have CP : Hid (∀ w, Calls Tryd.prog 17 #[.string s] w fun e w' => e = .returned (.tuple #[.agg #[.int .i64 x1, .int .i64 x2, .int .i64 x3, .string P, .string B], .int .i64 E, .int .i64 (Q : Nat)]) ∧ w.grownBy w' none) := fun w => by
    have := parse_any s w hs
    rw [hX] at this; rw [hP, hB]; exact this
  have CR : Hid (∀ w, Calls Tryd.prog 18 #[.string s] w fun e w' => e = .returned (.tuple #[.agg #[.int .i64 x1, .int .i64 x2, .int .i64 x3, .string P, .string B], .int .i64 E, .int .i64 (Q : Nat)]) ∧ w.grownBy w' none) := fun w => by
    have := readv_any s w hs
    rw [hX] at this; rw [hP, hB]; exact this
  have HG0 : Hid (E = 0 → (∀ w, Tab w → Calls Tryd.prog 8 #[.agg #[.int .i64 x1, .int .i64 x2, .int .i64 x3, .string P, .string B]] w fun e w' => e = .returned (.string s) ∧ w.grownBy w' none) ∧ (∀ w, Calls Tryd.prog 10 #[.agg #[.int .i64 x1, .int .i64 x2, .int .i64 x3, .string P, .string B]] w fun e w' => e = .returned (.bool true) ∧ w.grownBy w' none)) := by
    intro h0
    have hg := parse_good s.data.toList (by rw [hX]; exact h0)
    rw [hX] at hg
    simp only at hg
    obtain ⟨g1, g2, g3⟩ := hg
    have gb := sound_bounds g3
    have gl := pre_le ⟨x1, x2, x3, P0, B0⟩
    rw [g2] at gl
    simp only at gb gl
    have eP : P.data.toList = P0 := by rw [hP]
    have eB : B.data.toList = B0 := by rw [hB]
    have sP : P.size = P0.length := by rw [← eP]; simp
    have sB : B.size = B0.length := by rw [← eB]; simp
    refine ⟨fun w h => ?_, fun w => ?_⟩
    · have := vtext_any x1 x2 x3 P B w h (by omega) (by omega) (by omega) (by omega) (by omega)
      rw [eP, eB, g2] at this
      exact this
    · have := psound_any x1 x2 x3 P B w (by omega) (by omega)
      rw [eP, eB, g3] at this
      exact this
  have CL : Hid (∀ w, Calls Tryd.prog 19 #[.int .i64 E] w fun e w' => e = .returned (.int .i64 E) ∧ w.grownBy w' none) := fun w => lnum_gb E w
  have CL0 : Hid (∀ w, Calls Tryd.prog 19 #[.int .i64 0] w fun e w' => e = .returned (.int .i64 0) ∧ w.grownBy w' none) := fun w => lnum_gb 0 w
  have Va : Hid (∀ w, Calls Tryd.prog 9 #[.agg #[.int .i64 a1, .int .i64 a2, .int .i64 a3, .string a4, .string a5]] w fun e w' => e = .returned (.agg #[.int .i64 a1, .int .i64 a2, .int .i64 a3, .string a4, .string a5]) ∧ w.grownBy w' none) := fun w => vers_any _ _ _ _ _ w
  obtain ⟨X, hXt⟩ : ∃ X : ByteArray, X = ⟨(textV ⟨a1, a2, a3, a4.data.toList, a5.data.toList⟩).toArray⟩ := ⟨_, rfl⟩
  obtain ⟨σ, hσ⟩ : ∃ s, s = soundV ⟨a1, a2, a3, a4.data.toList, a5.data.toList⟩ := ⟨_, rfl⟩
  have PT : Hid (∀ w, Tab w → Calls Tryd.prog 8 #[.agg #[.int .i64 a1, .int .i64 a2, .int .i64 a3, .string a4, .string a5]] w fun e w' => e = .returned (.string X) ∧ w.grownBy w' none) := fun w h => by rw [hXt]; exact vtext_any a1 a2 a3 a4 a5 w h b1 b2 b3 (by omega) (by omega)
  have RS' : Hid (∀ w, Calls Tryd.prog 13 #[.agg #[.int .i64 a1, .int .i64 a2, .int .i64 a3, .string a4, .string a5]] w fun e w' => e = .returned (.bool σ) ∧ w.grownBy w' none) := fun w => by rw [hσ]; exact sound_any a1 a2 a3 a4 a5 w ha hb
  have CX : Hid (σ = true → X.size ≤ 100 → a1 ≤ 999999999 → a2 ≤ 999999999 → a3 ≤ 999999999 → ∀ w, Calls Tryd.prog 17 #[.string X] w fun e w' => e = .returned (.tuple #[.agg #[.int .i64 a1, .int .i64 a2, .int .i64 a3, .string a4, .string a5], .int .i64 0, .int .i64 0]) ∧ w.grownBy w' none) := by
    intro h0 h1 h2 h3 h4 w
    have eX : X.data.toList = textV ⟨a1, a2, a3, a4.data.toList, a5.data.toList⟩ := by rw [hXt]
    have sX : X.size = (textV ⟨a1, a2, a3, a4.data.toList, a5.data.toList⟩).length := by rw [← eX]; simp
    have := parse_any X w (by omega)
    rw [eX, parse_back _ (by rw [← hσ]; exact h0) h2 h3 h4 (by omega)] at this
    exact this
  have HT : Hid (Tab w) := ht
  clear hX hP hB hs hXt hσ b1 b2 b3 ha hb ht
  go_enter Tryd.func5, Tryd.ntmps5
  go_wp2_with (go_at_call 17; refine (CP.out _).mono ?_)
  rintro e w1 ⟨rfl, hg⟩
  obtain ⟨A, hA⟩ : ∃ A, w.heap.size = A := ⟨_, rfl⟩
  have STa : Hid (St A a1 a2 a3 a4 a5 w1) := by
    show St A a1 a2 a3 a4 a5 w1
    rw [← hA]; exact (st_row (t := 23) (heap_alloc_new w _)).grow hg
  have HG : Hid (w.grownBy w1 none) := gb_trans (gb_alloc (gb_refl w none) _) hg
  rw [hA]
  clear hA hg
  obtain ⟨V, hV⟩ : ∃ V, w1.heap.size = V := ⟨_, rfl⟩
  obtain ⟨W1, hW1⟩ : ∃ W, w1.alloc (.cells #[.int .i64 x1, .int .i64 x2, .int .i64 x3, .string P, .string B] 25) = W := ⟨_, rfl⟩
  have STx : Hid (St V x1 x2 x3 P B W1) := by
    show St V x1 x2 x3 P B W1
    rw [← hW1, ← hV]; exact st_row (t := 25) (heap_alloc_new w1 _)
  have hg1 : w1.grownBy W1 none := by rw [← hW1]; exact gb_alloc (gb_refl w1 none) _
  replace STa : Hid (St A a1 a2 a3 a4 a5 W1) := STa.out.grow hg1
  replace HG : Hid (w.grownBy W1 none) := gb_trans HG.out hg1
  clear hg1
  go_wp2_with (go_at_call 18; refine (CR.out _).mono ?_)
  rintro e w2 ⟨rfl, hg⟩
  replace STa : Hid (St A a1 a2 a3 a4 a5 w2) := STa.out.grow hg
  replace STx : Hid (St V x1 x2 x3 P B w2) := STx.out.grow hg
  replace HG : Hid (w.grownBy w2 none) := gb_trans HG.out hg
  clear hg hV hW1
  go_wp2_with (go_at_call 19; refine (CL.out _).mono ?_)
  rintro e w3 ⟨rfl, hg0⟩
  have hg : w2.grownBy w3 none := gb_trans (gb_alloc (gb_refl w2 none) _) hg0
  clear hg0
  replace STa : Hid (St A a1 a2 a3 a4 a5 w3) := STa.out.grow hg
  replace STx : Hid (St V x1 x2 x3 P B w3) := STx.out.grow hg
  replace HG : Hid (w.grownBy w3 none) := gb_trans HG.out hg
  clear hg
  have hne : (E == E) = true := by simp
  cases hz : (E == 0) with
  | false =>
    obtain ⟨s1, s2, s3, s4, s5⟩ := STa.out
    go_wp2_with (first | (go_at_call 13; refine (RS'.out _).mono ?_))
    rintro e w5 ⟨rfl, hg⟩
    clear s1 s2 s3 s4 s5
    replace STa : Hid (St A a1 a2 a3 a4 a5 w5) := STa.out.grow hg
    replace HG : Hid (w.grownBy w5 none) := gb_trans HG.out hg
    clear hg
    obtain ⟨s1, s2, s3, s4, s5⟩ := STa.out
    go_wp2_with (first | (go_at_call 9; refine (Va.out _).mono ?_))
    rintro e w6 ⟨rfl, hg⟩
    clear s1 s2 s3 s4 s5
    replace STa : Hid (St A a1 a2 a3 a4 a5 w6) := STa.out.grow hg
    replace HG : Hid (w.grownBy w6 none) := gb_trans HG.out hg
    clear hg
    have TB : Hid (Tab w6) := tab_grow HT.out HG.out
    go_wp2_with (first | (go_at_call 8; refine (PT.out _ TB.out).mono ?_))
    rintro e w7 ⟨rfl, hg⟩
    replace STa : Hid (St A a1 a2 a3 a4 a5 w7) := STa.out.grow hg
    replace HG : Hid (w.grownBy w7 none) := gb_trans HG.out hg
    clear hg
    obtain ⟨s1, s2, s3, s4, s5⟩ := STa.out
    cases hσ : σ with
    | false =>
      go_wp2
      go_ret
      exact ⟨rfl, HG.out⟩
    | true =>
      by_cases k0 : (100 : Int) < (X.size : Int)
      · go_wp2
        go_ret
        exact ⟨rfl, HG.out⟩
      by_cases k1 : (999999999 : Int) < a1
      · go_wp2
        go_ret
        exact ⟨rfl, HG.out⟩
      by_cases k2 : (999999999 : Int) < a2
      · go_wp2
        go_ret
        exact ⟨rfl, HG.out⟩
      by_cases k3 : (999999999 : Int) < a3
      · go_wp2
        go_ret
        exact ⟨rfl, HG.out⟩
      have CXX : Hid (∀ w, Calls Tryd.prog 17 #[.string X] w fun e w' => e = .returned (.tuple #[.agg #[.int .i64 a1, .int .i64 a2, .int .i64 a3, .string a4, .string a5], .int .i64 0, .int .i64 0]) ∧ w.grownBy w' none) := CX.out hσ (by omega) (by omega) (by omega) (by omega)
      go_wp2_with (first | (go_at_call 17; refine (CXX.out _).mono ?_))
      rintro e w8 ⟨rfl, hg⟩
      clear s1 s2 s3 s4 s5
      replace STa : Hid (St A a1 a2 a3 a4 a5 w8) := STa.out.grow hg
      replace HG : Hid (w.grownBy w8 none) := gb_trans HG.out hg
      clear hg
      go_wp2
      obtain ⟨N, hN⟩ : ∃ N, w8.heap.size = N := ⟨_, rfl⟩
      obtain ⟨W, hW⟩ : ∃ W, w8.alloc (.cells #[.int .i64 a1, .int .i64 a2, .int .i64 a3, .string a4, .string a5] 25) = W := ⟨_, rfl⟩
      have hg : w8.grownBy W none := by rw [← hW]; exact gb_alloc (gb_refl w8 none) _
      have STn : Hid (St N a1 a2 a3 a4 a5 W) := by
        show St N a1 a2 a3 a4 a5 W
        rw [← hW, ← hN]
        exact st_row (t := 25) (heap_alloc_new w8 _)
      try rw [hW]
      try rw [hN]
      replace STa : Hid (St A a1 a2 a3 a4 a5 W) := STa.out.grow hg
      replace HG : Hid (w.grownBy W none) := gb_trans HG.out hg
      clear hg
      clear hW hN
      obtain ⟨s1, s2, s3, s4, s5⟩ := STa.out
      obtain ⟨s6, s7, s8, s9, s10⟩ := STn.out
      have q1 : (a4.toList == a4.toList) = true := by simp
      have q2 : (a5.toList == a5.toList) = true := by simp
      go_region_held3 (fun w' => w'.cell? ⟨A, 0, none⟩ = some (.int .i64 a1) ∧ w'.cell? ⟨A, 1, none⟩ = some (.int .i64 a2) ∧ w'.cell? ⟨A, 2, none⟩ = some (.int .i64 a3) ∧ w'.cell? ⟨A, 3, none⟩ = some (.string a4) ∧ w'.cell? ⟨A, 4, none⟩ = some (.string a5) ∧ w'.cell? ⟨N, 0, none⟩ = some (.int .i64 a1) ∧ w'.cell? ⟨N, 1, none⟩ = some (.int .i64 a2) ∧ w'.cell? ⟨N, 2, none⟩ = some (.int .i64 a3) ∧ w'.cell? ⟨N, 3, none⟩ = some (.string a4) ∧ w'.cell? ⟨N, 4, none⟩ = some (.string a5)) ((first | exact keep2 (by assumption) (by assumption) | (refine ⟨?_, ?_, ?_, ?_, ?_, ?_, ?_, ?_, ?_, ?_⟩ <;> (refine World.grownBy.cell (by assumption) ?_ (by simp); assumption)) | go_keep)) (first | (go_at_call 9; refine (Va.out _).mono ?_; rintro e u1 ⟨rfl, hg1⟩) | (go_at_call 19; refine (CL0.out _).mono ?_; rintro e u2 ⟨rfl, hg2⟩))
      go_wp2
      go_ret
      exact ⟨rfl, gb_trans HG.out (gb_trans (gb_undrew hg2) hg1)⟩
  | true =>
    have h0 : E = 0 := by simpa using hz
    have hgood := HG0.out h0
    have CTx : Hid (∀ w, Tab w → Calls Tryd.prog 8 #[.agg #[.int .i64 x1, .int .i64 x2, .int .i64 x3, .string P, .string B]] w fun e w' => e = .returned (.string s) ∧ w.grownBy w' none) := hgood.1
    have CSx : Hid (∀ w, Calls Tryd.prog 10 #[.agg #[.int .i64 x1, .int .i64 x2, .int .i64 x3, .string P, .string B]] w fun e w' => e = .returned (.bool true) ∧ w.grownBy w' none) := hgood.2
    clear hgood HG0
    subst h0
    clear hz
    have TB0 : Hid (Tab w3) := tab_grow HT.out HG.out
    obtain ⟨y1, y2, y3, y4, y5⟩ := STx.out
    go_wp2_with (first | (go_at_call 8; refine (CTx.out _ TB0.out).mono ?_))
    rintro e v1 ⟨rfl, hg⟩
    clear y1 y2 y3 y4 y5
    replace STa : Hid (St A a1 a2 a3 a4 a5 v1) := STa.out.grow hg
    replace STx : Hid (St V x1 x2 x3 P B v1) := STx.out.grow hg
    replace HG : Hid (w.grownBy v1 none) := gb_trans HG.out hg
    clear hg
    obtain ⟨y1, y2, y3, y4, y5⟩ := STx.out
    go_wp2_with (first | (go_at_call 10; refine (CSx.out _).mono ?_))
    rintro e v2 ⟨rfl, hg⟩
    clear y1 y2 y3 y4 y5
    replace STa : Hid (St A a1 a2 a3 a4 a5 v2) := STa.out.grow hg
    replace HG : Hid (w.grownBy v2 none) := gb_trans HG.out hg
    clear hg
    have qs : (s.toList == s.toList) = true := by simp
    obtain ⟨s1, s2, s3, s4, s5⟩ := STa.out
    go_wp2_with (first | (go_at_call 13; refine (RS'.out _).mono ?_))
    rintro e w5 ⟨rfl, hg⟩
    clear s1 s2 s3 s4 s5
    replace STa : Hid (St A a1 a2 a3 a4 a5 w5) := STa.out.grow hg
    replace HG : Hid (w.grownBy w5 none) := gb_trans HG.out hg
    clear hg
    obtain ⟨s1, s2, s3, s4, s5⟩ := STa.out
    go_wp2_with (first | (go_at_call 9; refine (Va.out _).mono ?_))
    rintro e w6 ⟨rfl, hg⟩
    clear s1 s2 s3 s4 s5
    replace STa : Hid (St A a1 a2 a3 a4 a5 w6) := STa.out.grow hg
    replace HG : Hid (w.grownBy w6 none) := gb_trans HG.out hg
    clear hg
    have TB : Hid (Tab w6) := tab_grow HT.out HG.out
    go_wp2_with (first | (go_at_call 8; refine (PT.out _ TB.out).mono ?_))
    rintro e w7 ⟨rfl, hg⟩
    replace STa : Hid (St A a1 a2 a3 a4 a5 w7) := STa.out.grow hg
    replace HG : Hid (w.grownBy w7 none) := gb_trans HG.out hg
    clear hg
    obtain ⟨s1, s2, s3, s4, s5⟩ := STa.out
    cases hσ : σ with
    | false =>
      go_wp2
      go_ret
      exact ⟨rfl, HG.out⟩
    | true =>
      by_cases k0 : (100 : Int) < (X.size : Int)
      · go_wp2
        go_ret
        exact ⟨rfl, HG.out⟩
      by_cases k1 : (999999999 : Int) < a1
      · go_wp2
        go_ret
        exact ⟨rfl, HG.out⟩
      by_cases k2 : (999999999 : Int) < a2
      · go_wp2
        go_ret
        exact ⟨rfl, HG.out⟩
      by_cases k3 : (999999999 : Int) < a3
      · go_wp2
        go_ret
        exact ⟨rfl, HG.out⟩
      have CXX : Hid (∀ w, Calls Tryd.prog 17 #[.string X] w fun e w' => e = .returned (.tuple #[.agg #[.int .i64 a1, .int .i64 a2, .int .i64 a3, .string a4, .string a5], .int .i64 0, .int .i64 0]) ∧ w.grownBy w' none) := CX.out hσ (by omega) (by omega) (by omega) (by omega)
      go_wp2_with (first | (go_at_call 17; refine (CXX.out _).mono ?_))
      rintro e w8 ⟨rfl, hg⟩
      clear s1 s2 s3 s4 s5
      replace STa : Hid (St A a1 a2 a3 a4 a5 w8) := STa.out.grow hg
      replace HG : Hid (w.grownBy w8 none) := gb_trans HG.out hg
      clear hg
      go_wp2
      obtain ⟨N, hN⟩ : ∃ N, w8.heap.size = N := ⟨_, rfl⟩
      obtain ⟨W, hW⟩ : ∃ W, w8.alloc (.cells #[.int .i64 a1, .int .i64 a2, .int .i64 a3, .string a4, .string a5] 25) = W := ⟨_, rfl⟩
      have hg : w8.grownBy W none := by rw [← hW]; exact gb_alloc (gb_refl w8 none) _
      have STn : Hid (St N a1 a2 a3 a4 a5 W) := by
        show St N a1 a2 a3 a4 a5 W
        rw [← hW, ← hN]
        exact st_row (t := 25) (heap_alloc_new w8 _)
      try rw [hW]
      try rw [hN]
      replace STa : Hid (St A a1 a2 a3 a4 a5 W) := STa.out.grow hg
      replace HG : Hid (w.grownBy W none) := gb_trans HG.out hg
      clear hg
      clear hW hN
      obtain ⟨s1, s2, s3, s4, s5⟩ := STa.out
      obtain ⟨s6, s7, s8, s9, s10⟩ := STn.out
      have q1 : (a4.toList == a4.toList) = true := by simp
      have q2 : (a5.toList == a5.toList) = true := by simp
      go_region_held3 (fun w' => w'.cell? ⟨A, 0, none⟩ = some (.int .i64 a1) ∧ w'.cell? ⟨A, 1, none⟩ = some (.int .i64 a2) ∧ w'.cell? ⟨A, 2, none⟩ = some (.int .i64 a3) ∧ w'.cell? ⟨A, 3, none⟩ = some (.string a4) ∧ w'.cell? ⟨A, 4, none⟩ = some (.string a5) ∧ w'.cell? ⟨N, 0, none⟩ = some (.int .i64 a1) ∧ w'.cell? ⟨N, 1, none⟩ = some (.int .i64 a2) ∧ w'.cell? ⟨N, 2, none⟩ = some (.int .i64 a3) ∧ w'.cell? ⟨N, 3, none⟩ = some (.string a4) ∧ w'.cell? ⟨N, 4, none⟩ = some (.string a5)) ((first | exact keep2 (by assumption) (by assumption) | (refine ⟨?_, ?_, ?_, ?_, ?_, ?_, ?_, ?_, ?_, ?_⟩ <;> (refine World.grownBy.cell (by assumption) ?_ (by simp); assumption)) | go_keep)) (first | (go_at_call 9; refine (Va.out _).mono ?_; rintro e u1 ⟨rfl, hg1⟩) | (go_at_call 19; refine (CL0.out _).mono ?_; rintro e u2 ⟨rfl, hg2⟩))
      go_wp2
      go_ret
      exact ⟨rfl, gb_trans HG.out (gb_trans (gb_undrew hg2) hg1)⟩
end Go.Proofs.YtlfekpgoibgplaaDoor
