import Derived.Test.YtegapdmbpkfpmaaGreatDoorM45
/-
  RangeMeans, walked.
-/
namespace Go.Proofs.YtegapdmbpkfpmaaGreatDoor
open Go.RowKit
set_option linter.unusedVariables false

set_option maxHeartbeats 400000 in
theorem ordered_nil (w : World) : Calls Tryz.prog 22 #[.slice none 0 0] w fun e w' => e = .returned (.bool true) ∧ w.grownBy w' none := by
  go_enter Tryz.func22, Tryz.ntmps22
  go_wp2
  go_loopw [3] (fun vi wr => vi = .int .i64 0 ∧ w.grownBy wr none) (fun vi _ => 0)
  case atStart => exact ⟨rfl, gb_refl _ _⟩
  case round =>
    obtain ⟨rfl, hg⟩ := hrel
    have HG : Hid (w.grownBy wr none) := hg
    clear hg
    go_wp2
    go_ret
    exact ⟨rfl, HG.out⟩
theorem cOrdered (sl : Value) (T : List V) (k : Nat) (w : World) (h : SpS w sl (outs T)) (hT : NT T k) (hk : k ≤ 2) :
    Calls Tryz.prog 22 #[sl] w fun e w' => e = .returned (.bool true) ∧ w.grownBy w' none := by
  have hN := hT.nf hk
  have hl := hN.len
  rcases h with ⟨rfl, _⟩ | ⟨a, cap, rfl, h2, h3⟩
  · exact ordered_nil w
  · exact ordered_at a cap T (outs T) w rfl hT.up hN.small (by omega) h2 h3

set_option maxRecDepth 100000 in
set_option maxHeartbeats 3200000 in
theorem rangeMeansLaw (s : ByteArray) (v1 v2 v3 : Int) (v4 v5 : ByteArray) (w : World) (hs : s.size < 2 ^ 60) (h4 : v4.size ≤ 1048576) (h5 : v5.size ≤ 1048576) :
    Calls Tryz.prog 5 #[.string s, .agg #[.int .i64 v1, .int .i64 v2, .int .i64 v3, .string v4, .string v5]] w fun e w' => e = .returned (.bool true) ∧ w.grownBy w' none := by
  have CV : Hid (∀ w, Calls Tryz.prog 18 #[.agg #[.int .i64 v1, .int .i64 v2, .int .i64 v3, .string v4, .string v5]] w fun e w' => e = .returned (.agg #[.int .i64 v1, .int .i64 v2, .int .i64 v3, .string v4, .string v5]) ∧ w.grownBy w' none) := fun w => vers_any v1 v2 v3 v4 v5 w
  have CP : Hid (∀ w, Calls Tryz.prog 11 #[.string s] w (ParsePost (rdRange s.data.toList) w)) := fun w => rparse_any s w (by omega)
  have CR : Hid (∀ w, Calls Tryz.prog 12 #[.string s] w (RRPost (rdRange s.data.toList) w)) := fun w => readRange_any s w hs
  have CN : Hid (∀ n w, Calls Tryz.prog 13 #[.int .i64 n] w fun e w' => e = .returned (.int .i64 n) ∧ w.grownBy w' none) := fun n w => lnum_gb n w
  have CQ : Hid (∀ (sv : Value) (A : List (List Tq)) (w : World), SsAt w sv A → A.length ≤ 201 → (∀ L ∈ A, L.length ≤ 1000 ∧ ∀ x ∈ L, TqOk x) → Calls Tryz.prog 20 #[sv, .agg #[.int .i64 v1, .int .i64 v2, .int .i64 v3, .string v4, .string v5]] w fun e w' => e = .returned (.bool (admQ A ⟨v1, v2, v3, v4.data.toList⟩)) ∧ w.grownBy w' none) := fun sv A w h1 h2 h3 => admAll_any sv A v1 v2 v3 v4 v5 w h1 h2 h3 h4
  have CH : Hid (∀ (sl : Value) (L : List Sp) (w : World), SpS w sl L → LOk L 70000 → Calls Tryz.prog 21 #[sl, .agg #[.int .i64 v1, .int .i64 v2, .int .i64 v3, .string v4, .string v5]] w fun e w' => e = .returned (.bool (holdsL L ⟨v1, v2, v3, v4.data.toList⟩)) ∧ w.grownBy w' none) := fun sl L w h1 h2 => cHoldsQ sl L v1 v2 v3 v4 v5 w h1 (by have := h2.ln; omega) h2.sm h4
  have CO : Hid (∀ (sl : Value) (T : List V) (w : World), SpS w sl (outs T) → NT T 2 → Calls Tryz.prog 22 #[sl] w fun e w' => e = .returned (.bool true) ∧ w.grownBy w' none) := fun sl T w h1 h2 => cOrdered sl T 2 w h1 h2 (by omega)
  obtain ⟨sd, hsd⟩ : ∃ sd, soundV ⟨v1, v2, v3, v4.data.toList, v5.data.toList⟩ = sd := ⟨_, rfl⟩
  have CS : Hid (∀ w, Calls Tryz.prog 19 #[.agg #[.int .i64 v1, .int .i64 v2, .int .i64 v3, .string v4, .string v5]] w fun e w' => e = .returned (.bool sd) ∧ w.grownBy w' none) := fun w => by rw [← hsd]; exact sound_any v1 v2 v3 v4 v5 w (by omega) (by omega)
  have HV : Hid (sd = true → VOk ⟨v1, v2, v3, v4.data.toList⟩) := fun h => vok_sound (hsd.trans h)
  obtain ⟨E, K, S, hR⟩ : ∃ E K S, rdRange s.data.toList = (E, K, S) := ⟨_, _, _, rfl⟩
  rw [hR] at CP CR
  obtain ⟨v, hv⟩ : ∃ v : V, v = ⟨v1, v2, v3, v4.data.toList⟩ := ⟨_, rfl⟩
  rw [← hv] at CH CQ HV
  obtain ⟨π, hπ⟩ : ∃ π, admS S v = π := ⟨_, rfl⟩
  have Hπ : Hid (admS S v = π) := hπ
  clear hsd hR hv hπ hs h4 h5
  go_enter Tryz.func5, Tryz.ntmps5
  obtain ⟨A, hA⟩ : ∃ A, w.heap.size = A := ⟨_, rfl⟩
  have STw : Hid (St A v1 v2 v3 v4 v5 (w.alloc (.cells #[.int .i64 v1, .int .i64 v2, .int .i64 v3, .string v4, .string v5] 39))) := by show St _ _ _ _ _ _ _; rw [← hA]; exact st_row (heap_alloc_new w _)
  go_wp2_with (first | (go_at_call 11; refine (CP.out _).mono ?_))
  rintro e w1 ⟨o, n, c, rfl, hg, hnz, hok⟩
  try rw [hA]
  have HG : Hid (w.grownBy w1 none) := gb_trans (gb_alloc (gb_refl w none) _) hg
  have STv : Hid (St A v1 v2 v3 v4 v5 w1) := STw.out.grow hg
  have HO0 : Hid (E = 0 → ∃ T, SpS w1 (.slice o n c) (outs T) ∧ LOk (outs T) 70000 ∧ NT T 2 ∧ Has (outs T) (admS S)) := fun h => by
    obtain ⟨T, h1, h2, h3, h4⟩ := hok h
    exact ⟨T, h1.sps, h2, h3, h4⟩
  clear hg STw hA hnz hok
  simp only [] at *
  go_wp2_with (first | (go_at_call 12; refine (CR.out _).mono ?_))
  rintro e w2 ⟨o', n', c', Q, rfl, hg, hrr⟩
  replace STv : Hid (St A v1 v2 v3 v4 v5 w2) := STv.out.grow hg
  replace HG : Hid (w.grownBy w2 none) := gb_trans HG.out hg
  have HR0 : Hid (E = 0 → SsAt w2 (.slice o' n' c') Q ∧ Q.map (·.map teOf) = S ∧ Q.length ≤ 201 ∧ ∀ L ∈ Q, L.length ≤ 1000 ∧ ∀ x ∈ L, TqOk x) := fun h => by
    obtain ⟨h1, h2, h3, h4⟩ := hrr h
    exact ⟨oa_ss h1, h2, h3, h4⟩
  replace HO0 : Hid (E = 0 → ∃ T, SpS w2 (.slice o n c) (outs T) ∧ LOk (outs T) 70000 ∧ NT T 2 ∧ Has (outs T) (admS S)) := fun h => by
    obtain ⟨T, h1, h2⟩ := HO0.out h
    exact ⟨T, h1.grow hg, h2⟩
  clear hg hrr
  simp only [] at *
  obtain ⟨s1, s2, s3, s4, s5⟩ := STv.out
  go_wp2_with (first | (go_at_call 19; refine (CS.out _).mono ?_))
  rintro e w3 ⟨rfl, hg⟩
  replace STv : Hid (St A v1 v2 v3 v4 v5 w3) := STv.out.grow hg
  replace HG : Hid (w.grownBy w3 none) := gb_trans HG.out hg
  replace HR0 : Hid (E = 0 → SsAt w3 (.slice o' n' c') Q ∧ Q.map (·.map teOf) = S ∧ Q.length ≤ 201 ∧ ∀ L ∈ Q, L.length ≤ 1000 ∧ ∀ x ∈ L, TqOk x) := fun h => ⟨(HR0.out h).1.grow hg, (HR0.out h).2⟩
  replace HO0 : Hid (E = 0 → ∃ T, SpS w3 (.slice o n c) (outs T) ∧ LOk (outs T) 70000 ∧ NT T 2 ∧ Has (outs T) (admS S)) := fun h => by
    obtain ⟨T, h1, h2⟩ := HO0.out h
    exact ⟨T, h1.grow hg, h2⟩
  clear hg s1 s2 s3 s4 s5
  go_wp2_with (first | (go_at_call 13; refine (CN.out _ _).mono ?_))
  rintro e w4 ⟨rfl, hg⟩
  replace STv : Hid (St A v1 v2 v3 v4 v5 w4) := STv.out.grow hg
  replace HG : Hid (w.grownBy w4 none) := gb_trans HG.out hg
  replace HR0 : Hid (E = 0 → SsAt w4 (.slice o' n' c') Q ∧ Q.map (·.map teOf) = S ∧ Q.length ≤ 201 ∧ ∀ L ∈ Q, L.length ≤ 1000 ∧ ∀ x ∈ L, TqOk x) := fun h => ⟨(HR0.out h).1.grow hg, (HR0.out h).2⟩
  replace HO0 : Hid (E = 0 → ∃ T, SpS w4 (.slice o n c) (outs T) ∧ LOk (outs T) 70000 ∧ NT T 2 ∧ Has (outs T) (admS S)) := fun h => by
    obtain ⟨T, h1, h2⟩ := HO0.out h
    exact ⟨T, h1.grow hg, h2⟩
  clear hg
  cases hz : (E == 0) with
  | false =>
    have hE0 : ¬ E = 0 := by simpa using hz
    have hz2 : (E != 0) = true := by simp [bne, hz]
    clear HR0 HO0 STv
    go_wp2
    go_ret
    exact ⟨rfl, HG.out⟩
  | true =>
    have hE0 : E = 0 := by simpa using hz
    subst hE0
    obtain ⟨T, hT⟩ := HO0.out rfl
    have HOK : Hid (SpS w4 (.slice o n c) (outs T) ∧ LOk (outs T) 70000 ∧ NT T 2 ∧ Has (outs T) (admS S)) := hT
    have hQ := HR0.out rfl
    have HRR : Hid (SsAt w4 (.slice o' n' c') Q ∧ Q.map (·.map teOf) = S ∧ Q.length ≤ 201 ∧ ∀ L ∈ Q, L.length ≤ 1000 ∧ ∀ x ∈ L, TqOk x) := hQ
    clear hT hQ HR0 HO0 hz
    cases sd with
    | false =>
      clear HRR HOK STv
      go_wp2
      go_ret
      exact ⟨rfl, HG.out⟩
    | true =>
      have HHV : Hid (holdsL (outs T) v = π) := by show _ = _; rw [← Hπ.out]; exact HOK.out.2.2.2 v (HV.out (by first | rfl | trivial))
      have HQA : Hid (admQ Q v = π) := by show _ = _; rw [admQ_S, HRR.out.2.1]; exact Hπ.out
      obtain ⟨s1, s2, s3, s4, s5⟩ := STv.out
      go_wp2_with (first | (go_at_call 18; refine (CV.out _).mono ?_))
      rintro e w5 ⟨rfl, hg⟩
      replace STv : Hid (St A v1 v2 v3 v4 v5 w5) := STv.out.grow hg
      replace HG : Hid (w.grownBy w5 none) := gb_trans HG.out hg
      replace HOK : Hid (SpS w5 (.slice o n c) (outs T) ∧ LOk (outs T) 70000 ∧ NT T 2 ∧ Has (outs T) (admS S)) := ⟨HOK.out.1.grow hg, HOK.out.2⟩
      replace HRR : Hid (SsAt w5 (.slice o' n' c') Q ∧ Q.map (·.map teOf) = S ∧ Q.length ≤ 201 ∧ ∀ L ∈ Q, L.length ≤ 1000 ∧ ∀ x ∈ L, TqOk x) := ⟨HRR.out.1.grow hg, HRR.out.2⟩
      clear hg s1 s2 s3 s4 s5
      go_wp2_with (first | (go_at_call 21; refine (CH.out _ (outs T) _ HOK.out.1 HOK.out.2.1).mono ?_))
      rintro e w6 ⟨rfl, hg⟩
      replace STv : Hid (St A v1 v2 v3 v4 v5 w6) := STv.out.grow hg
      replace HG : Hid (w.grownBy w6 none) := gb_trans HG.out hg
      replace HOK : Hid (SpS w6 (.slice o n c) (outs T) ∧ LOk (outs T) 70000 ∧ NT T 2 ∧ Has (outs T) (admS S)) := ⟨HOK.out.1.grow hg, HOK.out.2⟩
      replace HRR : Hid (SsAt w6 (.slice o' n' c') Q ∧ Q.map (·.map teOf) = S ∧ Q.length ≤ 201 ∧ ∀ L ∈ Q, L.length ≤ 1000 ∧ ∀ x ∈ L, TqOk x) := ⟨HRR.out.1.grow hg, HRR.out.2⟩
      clear hg
      rw [HHV.out]
      go_wp2_with (first | (go_at_call 22; refine (CO.out _ T _ HOK.out.1 HOK.out.2.2.1).mono ?_))
      rintro e w7 ⟨rfl, hg⟩
      replace STv : Hid (St A v1 v2 v3 v4 v5 w7) := STv.out.grow hg
      replace HG : Hid (w.grownBy w7 none) := gb_trans HG.out hg
      replace HOK : Hid (SpS w7 (.slice o n c) (outs T) ∧ LOk (outs T) 70000 ∧ NT T 2 ∧ Has (outs T) (admS S)) := ⟨HOK.out.1.grow hg, HOK.out.2⟩
      replace HRR : Hid (SsAt w7 (.slice o' n' c') Q ∧ Q.map (·.map teOf) = S ∧ Q.length ≤ 201 ∧ ∀ L ∈ Q, L.length ≤ 1000 ∧ ∀ x ∈ L, TqOk x) := ⟨HRR.out.1.grow hg, HRR.out.2⟩
      clear hg
      obtain ⟨s1, s2, s3, s4, s5⟩ := STv.out
      go_wp2_with (first | (go_at_call 20; refine (CQ.out _ Q _ HRR.out.1 HRR.out.2.2.1 HRR.out.2.2.2).mono ?_))
      rintro e w8 ⟨rfl, hg⟩
      replace STv : Hid (St A v1 v2 v3 v4 v5 w8) := STv.out.grow hg
      replace HG : Hid (w.grownBy w8 none) := gb_trans HG.out hg
      replace HOK : Hid (SpS w8 (.slice o n c) (outs T) ∧ LOk (outs T) 70000 ∧ NT T 2 ∧ Has (outs T) (admS S)) := ⟨HOK.out.1.grow hg, HOK.out.2⟩
      replace HRR : Hid (SsAt w8 (.slice o' n' c') Q ∧ Q.map (·.map teOf) = S ∧ Q.length ≤ 201 ∧ ∀ L ∈ Q, L.length ≤ 1000 ∧ ∀ x ∈ L, TqOk x) := ⟨HRR.out.1.grow hg, HRR.out.2⟩
      clear hg s1 s2 s3 s4 s5
      rw [HQA.out]
      clear HQA HHV Hπ HRR HOK STv
      cases π with
      | false =>
        go_wp2
        go_ret
        exact ⟨rfl, HG.out⟩
      | true =>
        go_wp2
        go_ret
        exact ⟨rfl, HG.out⟩
end Go.Proofs.YtegapdmbpkfpmaaGreatDoor
