import Derived.Test.YtegapdmbpkfpmaaGreatDoorM32
import Derived.Test.YtegapdmbpkfpmaaGreatDoorM33
import Derived.Test.YtegapdmbpkfpmaaGreatDoorM44
import Derived.Test.YtegapdmbpkfpmaaGreatDoorM05
import Derived.Test.YtegapdmbpkfpmaaGreatDoorM08
import Derived.Test.YtegapdmbpkfpmaaGreatDoorM10
import Derived.Test.YtegapdmbpkfpmaaGreatDoorM17
import Derived.Test.YtegapdmbpkfpmaaGreatDoorRows
import Derived.ProofKit
import Derived.OpenShut
import Derived.ShutString
import Derived.SizedLaws
import Derived.Lib.SmallJoins
import Derived.Test.YtegapdmbpkfpmaaGreatDoorCards
import Derived.Test.YtegapdmbpkfpmaaGreatDoorTie
import Derived.Deep.DeepHandedRow
import Derived.Lib.LaidTab
/-
  The program's Admits, and two laws of it, walked.
-/
namespace Go.Proofs.YtegapdmbpkfpmaaGreatDoor
open Go.RowKit
set_option linter.unusedVariables false

theorem vok_sound {a1 a2 a3 : Int} {a4 a5 : List UInt8} (h : soundV ⟨a1, a2, a3, a4, a5⟩ = true) : VOk ⟨a1, a2, a3, a4⟩ := by
  unfold soundV at h
  simp only [Bool.and_eq_true, bound_iff] at h
  exact ⟨h.1.1, h.2.1.1, h.2.2.1.1, h.2.2.2.1⟩
def AdmP (E : Int) (K : Nat) (sd π : Bool) (b : Bool) (E' K' : Int) : Prop :=
  (¬ E = 0 → b = false ∧ E' = E ∧ K' = K) ∧ (E = 0 → sd = false → b = false ∧ E' = 7 ∧ K' = 0) ∧ (E = 0 → sd = true → b = π ∧ E' = 0 ∧ K' = 0)
set_option maxRecDepth 100000 in
set_option maxHeartbeats 3200000 in
theorem padmits_any (s : ByteArray) (v1 v2 v3 : Int) (v4 v5 : ByteArray) (w : World) (hs : s.size < 2 ^ 62) (h4 : v4.size ≤ 1048576) (h5 : v5.size ≤ 1048576) :
    Calls Tryz.prog 17 #[.string s, .agg #[.int .i64 v1, .int .i64 v2, .int .i64 v3, .string v4, .string v5]] w fun e w' => ∃ (b : Bool) (E' K' : Int), e = .returned (.tuple #[.bool b, .int .i64 E', .int .i64 K']) ∧ w.grownBy w' none ∧ AdmP (rdRange s.data.toList).1 (rdRange s.data.toList).2.1 (soundV ⟨v1, v2, v3, v4.data.toList, v5.data.toList⟩) (admS (rdRange s.data.toList).2.2 ⟨v1, v2, v3, v4.data.toList⟩) b E' K' := by
  have CP : Hid (∀ w, Calls Tryz.prog 11 #[.string s] w (ParsePost (rdRange s.data.toList) w)) := fun w => rparse_any s w hs
  obtain ⟨sd, hsd⟩ : ∃ sd, soundV ⟨v1, v2, v3, v4.data.toList, v5.data.toList⟩ = sd := ⟨_, rfl⟩
  have CS : Hid (∀ w, Calls Tryz.prog 40 #[.agg #[.int .i64 v1, .int .i64 v2, .int .i64 v3, .string v4, .string v5]] w fun e w' => e = .returned (.bool sd) ∧ w.grownBy w' none) := fun w => by rw [← hsd]; exact psound_any v1 v2 v3 v4 v5 w (by omega) (by omega)
  have HV : Hid (sd = true → VOk ⟨v1, v2, v3, v4.data.toList⟩) := fun h => vok_sound (hsd.trans h)
  have CH : Hid (∀ (sl : Value) (L : List Sp) (w : World), SpS w sl L → LOk L 70000 → Calls Tryz.prog 21 #[sl, .agg #[.int .i64 v1, .int .i64 v2, .int .i64 v3, .string v4, .string v5]] w fun e w' => e = .returned (.bool (holdsL L ⟨v1, v2, v3, v4.data.toList⟩)) ∧ w.grownBy w' none) := fun sl L w h1 h2 => cHoldsQ sl L v1 v2 v3 v4 v5 w h1 (by have := h2.ln; omega) h2.sm h4
  obtain ⟨E, K, S, hR⟩ : ∃ E K S, rdRange s.data.toList = (E, K, S) := ⟨_, _, _, rfl⟩
  rw [hsd]
  rw [hR] at CP ⊢
  obtain ⟨v, hv⟩ : ∃ v : V, v = ⟨v1, v2, v3, v4.data.toList⟩ := ⟨_, rfl⟩
  rw [← hv] at CH HV ⊢
  obtain ⟨π, hπ⟩ : ∃ π, admS S v = π := ⟨_, rfl⟩
  have Hπ : Hid (admS S v = π) := hπ
  simp only [] at hπ ⊢
  rw [hπ]
  clear hsd hR hv hπ hs h4 h5
  go_enter Tryz.func17, Tryz.ntmps17
  go_wp2_with (first | (go_at_call 11; refine (CP.out _).mono ?_))
  rintro e w1 ⟨o, n, c, rfl, hg, hnz, hok⟩
  obtain ⟨A, hA⟩ : ∃ A, w.heap.size = A := ⟨_, rfl⟩
  have STv : Hid (St A v1 v2 v3 v4 v5 w1) := by show St _ _ _ _ _ _ _; rw [← hA]; exact (st_row (heap_alloc_new w _)).grow hg
  have HG : Hid (w.grownBy w1 none) := gb_trans (gb_alloc (gb_refl w none) _) hg
  have HOK : Hid (E = 0 → ∃ L, SpS w1 (.slice o n c) L ∧ LOk L 70000 ∧ Has L (admS S)) := fun h => by
    obtain ⟨T, h1, h2, h3, h4⟩ := hok h
    exact ⟨_, h1.sps, h2, h4⟩
  try rw [hA]
  clear hA hg hnz hok
  simp only [] at *
  cases hz : (E == 0) with
  | false =>
    have HE0 : Hid (¬ E = 0) := by show ¬ E = 0; simpa using hz
    go_wp2
    refine bodyPost_ret (results_tmp3 (t := 4) (u := 5) (v := 6) rfl _ _ _) rfl ?_
    exact ⟨_, _, _, rfl, HG.out, fun _ => ⟨rfl, rfl, rfl⟩, fun h => absurd h HE0.out, fun h => absurd h HE0.out⟩
  | true =>
    have hE0 : E = 0 := by simpa using hz
    subst hE0
    obtain ⟨L, hl1, hl2, hl3⟩ := HOK.out rfl
    have HL : Hid (SpS w1 (.slice o n c) L ∧ LOk L 70000 ∧ Has L (admS S)) := ⟨hl1, hl2, hl3⟩
    clear hl1 hl2 hl3 HOK hz
    obtain ⟨s1, s2, s3, s4, s5⟩ := STv.out
    go_wp2_with (first | (go_at_call 40; refine (CS.out _).mono ?_))
    rintro e w2 ⟨rfl, hg⟩
    replace STv : Hid (St A v1 v2 v3 v4 v5 w2) := STv.out.grow hg
    replace HG : Hid (w.grownBy w2 none) := gb_trans HG.out hg
    replace HL : Hid (SpS w2 (.slice o n c) L ∧ LOk L 70000 ∧ Has L (admS S)) := ⟨HL.out.1.grow hg, HL.out.2⟩
    clear hg s1 s2 s3 s4 s5
    cases sd with
    | false =>
      go_wp2
      refine bodyPost_ret (results_tmp3 (t := 4) (u := 5) (v := 6) rfl _ _ _) rfl ?_
      exact ⟨_, _, _, rfl, HG.out, fun h => absurd rfl h, fun _ _ => ⟨rfl, rfl, rfl⟩, fun _ h => by cases h⟩
    | true =>
      have HHV : Hid (holdsL L v = π) := by show _ = _; rw [← Hπ.out]; exact HL.out.2.2 v (HV.out (by first | rfl | trivial))
      obtain ⟨s1, s2, s3, s4, s5⟩ := STv.out
      go_wp2_with (first | (go_at_call 21; refine (CH.out _ L _ HL.out.1 HL.out.2.1).mono ?_))
      rintro e w3 ⟨rfl, hg⟩
      replace HG : Hid (w.grownBy w3 none) := gb_trans HG.out hg
      clear hg s1 s2 s3 s4 s5
      rw [HHV.out]
      go_wp2
      refine bodyPost_ret (results_tmp3 (t := 4) (u := 5) (v := 6) rfl _ _ _) rfl ?_
      exact ⟨_, _, _, rfl, HG.out, fun h => absurd rfl h, fun _ h => (by cases h), fun _ _ => ⟨rfl, rfl, rfl⟩⟩

set_option maxRecDepth 100000 in
set_option maxHeartbeats 3200000 in
theorem rangeAdmitsLaw (s : ByteArray) (v1 v2 v3 : Int) (v4 v5 : ByteArray) (w : World) (hs : s.size < 2 ^ 60) (h4 : v4.size ≤ 1048576) (h5 : v5.size ≤ 1048576) :
    Calls Tryz.prog 4 #[.string s, .agg #[.int .i64 v1, .int .i64 v2, .int .i64 v3, .string v4, .string v5]] w fun e w' => e = .returned (.bool true) ∧ w.grownBy w' none := by
  have CV : Hid (∀ w, Calls Tryz.prog 18 #[.agg #[.int .i64 v1, .int .i64 v2, .int .i64 v3, .string v4, .string v5]] w fun e w' => e = .returned (.agg #[.int .i64 v1, .int .i64 v2, .int .i64 v3, .string v4, .string v5]) ∧ w.grownBy w' none) := fun w => vers_any v1 v2 v3 v4 v5 w
  have CA : Hid (∀ w, Calls Tryz.prog 17 #[.string s, .agg #[.int .i64 v1, .int .i64 v2, .int .i64 v3, .string v4, .string v5]] w fun e w' => ∃ (b : Bool) (E' K' : Int), e = .returned (.tuple #[.bool b, .int .i64 E', .int .i64 K']) ∧ w.grownBy w' none ∧ AdmP (rdRange s.data.toList).1 (rdRange s.data.toList).2.1 (soundV ⟨v1, v2, v3, v4.data.toList, v5.data.toList⟩) (admS (rdRange s.data.toList).2.2 ⟨v1, v2, v3, v4.data.toList⟩) b E' K') := fun w => padmits_any s v1 v2 v3 v4 v5 w (by omega) h4 h5
  have CR : Hid (∀ w, Calls Tryz.prog 12 #[.string s] w (RRPost (rdRange s.data.toList) w)) := fun w => readRange_any s w hs
  have CN : Hid (∀ n w, Calls Tryz.prog 13 #[.int .i64 n] w fun e w' => e = .returned (.int .i64 n) ∧ w.grownBy w' none) := fun n w => lnum_gb n w
  have CQ : Hid (∀ (sv : Value) (A : List (List Tq)) (w : World), SsAt w sv A → A.length ≤ 201 → (∀ L ∈ A, L.length ≤ 1000 ∧ ∀ x ∈ L, TqOk x) → Calls Tryz.prog 20 #[sv, .agg #[.int .i64 v1, .int .i64 v2, .int .i64 v3, .string v4, .string v5]] w fun e w' => e = .returned (.bool (admQ A ⟨v1, v2, v3, v4.data.toList⟩)) ∧ w.grownBy w' none) := fun sv A w h1 h2 h3 => admAll_any sv A v1 v2 v3 v4 v5 w h1 h2 h3 h4
  obtain ⟨sd, hsd⟩ : ∃ sd, soundV ⟨v1, v2, v3, v4.data.toList, v5.data.toList⟩ = sd := ⟨_, rfl⟩
  have CS : Hid (∀ w, Calls Tryz.prog 19 #[.agg #[.int .i64 v1, .int .i64 v2, .int .i64 v3, .string v4, .string v5]] w fun e w' => e = .returned (.bool sd) ∧ w.grownBy w' none) := fun w => by rw [← hsd]; exact sound_any v1 v2 v3 v4 v5 w (by omega) (by omega)
  obtain ⟨E, K, S, hR⟩ : ∃ E K S, rdRange s.data.toList = (E, K, S) := ⟨_, _, _, rfl⟩
  rw [hR, hsd] at CA
  rw [hR] at CR
  obtain ⟨v, hv⟩ : ∃ v : V, v = ⟨v1, v2, v3, v4.data.toList⟩ := ⟨_, rfl⟩
  rw [← hv] at CA CQ
  obtain ⟨π, hπ⟩ : ∃ π, admS S v = π := ⟨_, rfl⟩
  have Hπ : Hid (admS S v = π) := hπ
  simp only [] at hπ CA
  rw [hπ] at CA
  clear hsd hR hv hπ hs h4 h5
  go_enter Tryz.func4, Tryz.ntmps4
  obtain ⟨A, hA⟩ : ∃ A, w.heap.size = A := ⟨_, rfl⟩
  have STw : Hid (St A v1 v2 v3 v4 v5 (w.alloc (.cells #[.int .i64 v1, .int .i64 v2, .int .i64 v3, .string v4, .string v5] 39))) := by show St _ _ _ _ _ _ _; rw [← hA]; exact st_row (heap_alloc_new w _)
  go_wp2_with (first | (go_at_call 18; refine (CV.out _).mono ?_))
  rintro e w1 ⟨rfl, hg⟩
  try rw [hA]
  have HG : Hid (w.grownBy w1 none) := gb_trans (gb_alloc (gb_refl w none) _) hg
  have STv : Hid (St A v1 v2 v3 v4 v5 w1) := STw.out.grow hg
  clear hg STw hA
  go_wp2_with (first | (go_at_call 17; refine (CA.out _).mono ?_))
  rintro e w2 ⟨b, E', K', rfl, hg, hadm⟩
  replace STv : Hid (St A v1 v2 v3 v4 v5 w2) := STv.out.grow hg
  replace HG : Hid (w.grownBy w2 none) := gb_trans HG.out hg
  have HAD : Hid (AdmP E K sd π b E' K') := hadm
  clear hg hadm
  go_wp2_with (first | (go_at_call 12; refine (CR.out _).mono ?_))
  rintro e w3 ⟨o, n, c, Q, rfl, hg, hrr⟩
  replace STv : Hid (St A v1 v2 v3 v4 v5 w3) := STv.out.grow hg
  replace HG : Hid (w.grownBy w3 none) := gb_trans HG.out hg
  have HRR : Hid (E = 0 → SsAt w3 (.slice o n c) Q ∧ Q.map (·.map teOf) = S ∧ Q.length ≤ 201 ∧ ∀ L ∈ Q, L.length ≤ 1000 ∧ ∀ x ∈ L, TqOk x) := fun h => by
    obtain ⟨h1, h2, h3, h4⟩ := hrr h
    exact ⟨oa_ss h1, h2, h3, h4⟩
  clear hg hrr
  simp only [] at *
  cases hz : (E == 0) with
  | false =>
    have hE0 : ¬ E = 0 := by simpa using hz
    obtain ⟨rfl, rfl, rfl⟩ := HAD.out.1 hE0
    clear HAD HRR hE0
    go_wp2_with (first | (go_at_call 13; refine (CN.out _ _).mono ?_))
    rintro e w4 ⟨rfl, hg⟩
    replace HG : Hid (w.grownBy w4 none) := gb_trans HG.out hg
    clear hg
    go_wp2
    go_ret
    exact ⟨rfl, HG.out⟩
  | true =>
    have hE0 : E = 0 := by simpa using hz
    subst hE0
    have HQ := HRR.out rfl
    replace HRR : Hid (SsAt w3 (.slice o n c) Q ∧ Q.map (·.map teOf) = S ∧ Q.length ≤ 201 ∧ ∀ L ∈ Q, L.length ≤ 1000 ∧ ∀ x ∈ L, TqOk x) := HQ
    clear HQ hz
    obtain ⟨s1, s2, s3, s4, s5⟩ := STv.out
    go_wp2_with (first | (go_at_call 19; refine (CS.out _).mono ?_))
    rintro e w4 ⟨rfl, hg⟩
    replace STv : Hid (St A v1 v2 v3 v4 v5 w4) := STv.out.grow hg
    replace HG : Hid (w.grownBy w4 none) := gb_trans HG.out hg
    replace HRR : Hid (SsAt w4 (.slice o n c) Q ∧ Q.map (·.map teOf) = S ∧ Q.length ≤ 201 ∧ ∀ L ∈ Q, L.length ≤ 1000 ∧ ∀ x ∈ L, TqOk x) := ⟨HRR.out.1.grow hg, HRR.out.2⟩
    clear hg s1 s2 s3 s4 s5
    cases sd with
    | false =>
      obtain ⟨rfl, rfl, rfl⟩ := HAD.out.2.1 rfl rfl
      clear HAD HRR STv
      go_wp2_with (first | (go_at_call 13; refine (CN.out _ _).mono ?_))
      rintro e w5 ⟨rfl, hg⟩
      replace HG : Hid (w.grownBy w5 none) := gb_trans HG.out hg
      clear hg
      go_wp2
      go_ret
      exact ⟨rfl, HG.out⟩
    | true =>
      obtain ⟨rfl, rfl, rfl⟩ := HAD.out.2.2 rfl rfl
      have HQA : Hid (admQ Q v = b) := by show _ = _; rw [admQ_S, HRR.out.2.1]; exact Hπ.out
      clear HAD
      obtain ⟨s1, s2, s3, s4, s5⟩ := STv.out
      go_wp2_with (first | (go_at_call 20; refine (CQ.out _ Q _ HRR.out.1 HRR.out.2.2.1 HRR.out.2.2.2).mono ?_))
      rintro e w5 ⟨rfl, hg⟩
      replace HG : Hid (w.grownBy w5 none) := gb_trans HG.out hg
      clear hg s1 s2 s3 s4 s5 HRR STv
      rw [HQA.out]
      clear HQA Hπ
      cases b with
      | false =>
        go_wp2_with (first | (go_at_call 13; refine (CN.out _ _).mono ?_))
        rintro e w6 ⟨rfl, hg⟩
        replace HG : Hid (w.grownBy w6 none) := gb_trans HG.out hg
        clear hg
        go_wp2
        go_ret
        exact ⟨rfl, HG.out⟩
      | true =>
        go_wp2_with (first | (go_at_call 13; refine (CN.out _ _).mono ?_))
        rintro e w6 ⟨rfl, hg⟩
        replace HG : Hid (w.grownBy w6 none) := gb_trans HG.out hg
        clear hg
        go_wp2
        go_ret
        exact ⟨rfl, HG.out⟩
end Go.Proofs.YtegapdmbpkfpmaaGreatDoor

/-
  A version among the arguments: opened, shut, weighed.
-/
namespace Go.Proofs.YtegapdmbpkfpmaaGreatDoor
open Go.ChangeShapes Go.WideShapes Go.ChangeAt Go.RowKit Go.Joins
open Go.ChangeMaps (open_string shut_string)
set_option linter.unusedVariables false

theorem cellsVer : Tryz.prog.cellsOf 39 = 5 := by kernel_rfl
theorem array5 {α : Type} {cs : Array α} (h : cs.size = 5) : ∃ c0 c1 c2 c3 c4, cs = #[c0, c1, c2, c3, c4] := by
  obtain ⟨l⟩ := cs
  match l, h with
  | [c0, c1, c2, c3, c4], _ => exact ⟨c0, c1, c2, c3, c4, rfl⟩
/-- how a version reads -/
def datV {H : Type} (a1 a2 a3 : Int) (a4 a5 : ByteArray) : DataW H := .agg [.lit (.int .i64 a1), .lit (.int .i64 a2), .lit (.int .i64 a3), .lit (.string a4.data.toList), .lit (.string a5.data.toList)]
def wfV (a1 a2 a3 : Int) (a4 a5 : ByteArray) : Prop := (Lit.int .i64 a1).wf = true ∧ (Lit.int .i64 a2).wf = true ∧ (Lit.int .i64 a3).wf = true ∧ a4.size ≤ maxLen ∧ a5.size ≤ maxLen

set_option maxRecDepth 100000 in
set_option maxHeartbeats 800000 in
theorem open_ver {H : Type} {enc : TypeId × Value → H} {w : World} {base : Nat} {spare : Nat → Bool} {held : Bool} {r : Reach} {b0 : Nat} {v : Value} {d : DataW H} {p : List MemPlace}
    (hv : Value.okWide Tryz.prog w r b0 39 v) (h : DataW.Trod enc Tryz.prog w base spare held 39 v d p) :
    ∃ (a1 a2 a3 : Int) (a4 a5 : ByteArray), v = .agg #[.int .i64 a1, .int .i64 a2, .int .i64 a3, .string a4, .string a5] ∧ d = datV a1 a2 a3 a4 a5 ∧ p = [] ∧ wfV a1 a2 a3 a4 a5 := by
  have hu := Tryz.underlying39
  obtain ⟨cs, rfl, hsz⟩ := okWide_struct hu hv
  have hsz' : cs.size = 5 := by rw [hsz]; exact cellsVer
  obtain ⟨c0, c1, c2, c3, c4, rfl⟩ := array5 hsz'
  obtain ⟨fuel, hf⟩ := h
  obtain ⟨xs, n, _, hx, hl, hlen, hfs⟩ := DataW.trod_struct hu hf
  simp only [Prod.mk.injEq] at hx
  obtain ⟨rfl, rfl⟩ := hx
  match xs, hlen with
  | [y0, y1, y2, y3, y4], _ =>
    have k3 : Tryz.prog.cellsOf 3 = 1 := by kernel_rfl
    have k9 : Tryz.prog.cellsOf 9 = 1 := by kernel_rfl
    have g0 := hfs 0 _ rfl
    have g1 := hfs 1 _ rfl
    have g2 := hfs 2 _ rfl
    have g3 := hfs 3 _ rfl
    have g4 := hfs 4 _ rfl
    simp [Value.cells, k3, k9] at g0 g1 g2 g3 g4
    obtain ⟨a1, e1, rfl, w1⟩ := DataW.trod_int Tryz.underlying3 g0
    obtain ⟨a2, e2, rfl, w2⟩ := DataW.trod_int Tryz.underlying3 g1
    obtain ⟨a3, e3, rfl, w3⟩ := DataW.trod_int Tryz.underlying3 g2
    obtain ⟨a4, e4, rfl, w4⟩ := DataW.trod_string Tryz.underlying9 g3
    obtain ⟨a5, e5, rfl, w5⟩ := DataW.trod_string Tryz.underlying9 g4
    simp at e1 e2 e3 e4 e5
    subst e1 e2 e3 e4 e5
    exact ⟨a1, a2, a3, a4, a5, rfl, rfl, rfl, w1, w2, w3, w4, w5⟩

set_option maxRecDepth 100000 in
set_option maxHeartbeats 800000 in
theorem shut_ver {H : Type} {enc : TypeId × Value → H} {w : World} {base : Nat} {spare : Nat → Bool} {held : Bool} {a1 a2 a3 : Int} {a4 a5 : ByteArray} (h : wfV a1 a2 a3 a4 a5) :
    DataW.Trod enc Tryz.prog w base spare held 39 (.agg #[.int .i64 a1, .int .i64 a2, .int .i64 a3, .string a4, .string a5]) (datV a1 a2 a3 a4 a5) [] := by
  have hu := Tryz.underlying39
  have k3 : Tryz.prog.cellsOf 3 = 1 := by kernel_rfl
  have k9 : Tryz.prog.cellsOf 9 = 1 := by kernel_rfl
  have u3 := Tryz.underlying3
  have u9 := Tryz.underlying9
  obtain ⟨h1, h2, h3, h4, h5⟩ := h
  refine ⟨2, ?_⟩
  have := trod_struct_mk (enc := enc) (w := w) (base := base) (spare := spare) (held := held) (n := 1) (cs := [.int .i64 a1, .int .i64 a2, .int .i64 a3, .string a4, .string a5])
    (xs := [(.lit (.int .i64 a1), []), (.lit (.int .i64 a2), []), (.lit (.int .i64 a3), []), (.lit (.string a4.data.toList), []), (.lit (.string a5.data.toList), [])]) hu (by rw [cellsVer]; rfl) (by simp [k3, k9, DataW.trod, u3, u9, h1, h2, h3, h4, h5])
  simpa [Value.cells, datV] using this

end Go.Proofs.YtegapdmbpkfpmaaGreatDoor

/-
  RangeAdmits: the row and its card.
-/
namespace Go.Proofs.YtegapdmbpkfpmaaGreatDoor
open Go.ChangeShapes Go.WideShapes Go.ChangeAt Go.RowKit
open Go.ChangeMaps (open_string shut_string)
set_option linter.unusedVariables false

theorem own : ownKnob Tryz.prog.godebug = none := by kernel_rfl

set_option maxRecDepth 100000 in
theorem rangeAdmitsContract (H : Type) (enc : TypeId × Value → H) (W : World) (base : Nat) (args : Array Value) (ds gs : List (DataW H)) (before : List MemPlace)
    (hval : ∀ (j : Nat) t v, Tryz.f4.params[j]? = some t → args[j]? = some v → Value.okWide Tryz.prog W .any base t v)
    (hW : DataW.Whole enc Tryz.prog Tryz.f4.params.toList Rows.rangeAdmitsSpec.vars false W args.toList ds gs before) (hL : laidMetH Tryz.prog Rows.rangeAdmitsUptoRow.laid W)
    (hcond : Rows.uptoSmall H (ds ++ gs) = true) :
    Calls Tryz.prog 4 args W fun e W' => ∃ v, e = .returned v ∧ Rows.rangeAdmitsSpec.post enc Tryz.prog Tryz.f4 false true false false W args v W' := by
  have hW' := hW
  obtain ⟨p, q, hA0, hV, rfl, hfz, hnd⟩ := hW
  have hA : DataW.TrodAll enc Tryz.prog W 0 (fun _ => true) true Tryz.f4.params.toList args.toList ds p := hA0
  rw [Tryz.params4] at hA hval
  obtain ⟨v0, vs0, d0, ds0, p0, q0, hargs0, rfl, rfl, h0, r0⟩ := trodAll_cons hA
  obtain ⟨v1, vs1, d1, ds1, p1, q1, hargs1, rfl, rfl, h1, r1⟩ := trodAll_cons r0
  obtain ⟨rfl, rfl, rfl⟩ := trodAll_nil r1
  obtain rfl : args = #[v0, v1] := by cases args; simp_all
  obtain ⟨rfl, rfl⟩ := trodVars_none hV
  obtain ⟨a, rfl, rfl, rfl, wa⟩ := open_string Tryz.underlying9 (hval 0 9 v0 rfl rfl) h0
  obtain ⟨b1, b2, b3, b4, b5, rfl, rfl, rfl, wb⟩ := open_ver (hval 1 39 v1 rfl rfl) h1
  have hb := of_decide_eq_true hcond
  simp only [List.append_nil, datV, Rows.uptoBulkAll, Rows.uptoBulk, Array.length_toList] at hb
  have sa : a.size ≤ 1048576 := by have e4 : a.data.size = a.size := rfl; omega
  have sb : b4.size ≤ 1048576 ∧ b5.size ≤ 1048576 := by have e4 : b4.data.size = b4.size := rfl; have e5 : b5.data.size = b5.size := rfl; omega
  clear hb hA0
  simp only [List.append_nil] at hW'
  refine (rangeAdmitsLaw a b1 b2 b3 b4 b5 W (by omega) sb.1 sb.2).mono fun e W' ⟨he, hgb⟩ => ?_
  subst he
  exact ⟨_, rfl, _, _, _, [], [], [], hW', (trodAll_cons_mk (shut_bool Tryz.underlying4 _) trodAll_mk0), (trodAll_cons_mk (shut_string Tryz.underlying9 wa) (trodAll_cons_mk (shut_ver wb) trodAll_mk0)), rfl, (gb_below hgb).frame _, fun h => by cases h⟩

/-- a datum of numbers, as cells -/
def litV {H : Type} : DataW H → Value
  | .lit (.int k n) => .int k n
  | _ => .bool false
def rowV {H : Type} : DataW H → Array Value
  | .agg ps => (ps.flatMap fun d => match d with | .agg qs => qs.map litV | d => [litV d]).toArray
  | _ => #[]
/-- a world for the witness: the settled one, the tables holding what their initialisers lay. -/
def laidWorld (P : Program) (os : Os) : World :=
  { World.holding P os ⟨#[], #[], []⟩ with heap := (((World.holding P os ⟨#[], #[], []⟩).heap.setIfInBounds 2 (.cells (rowV Rows.laid_unicode_utf8_first) 232 (0, 0))).setIfInBounds 3 (.cells (rowV (Rows.laid_unicode_utf8_acceptRanges : DataW Unit)) 235 (0, 0))) }
def zeroA : Value := .agg #[.int .i64 0, .int .i64 0, .int .i64 0, .string ⟨#[]⟩, .string ⟨#[]⟩]
set_option maxRecDepth 100000 in
theorem laid_met (os : Os) : laidMet Tryz.prog Rows.rangeAdmitsUptoRow.laid ((laidWorld Tryz.prog os).forCall (fun _ _ => 0) ⟨#[], #[.string ⟨#[]⟩, zeroA], []⟩).memory :=
  laidMet_of_run' 8 (by kernel_rfl) (by kernel_rfl)
theorem rangeAdmitsReads (os : Os) {H : Type} (enc : TypeId × Value → H) : ∃ places, DataW.whole enc Tryz.prog ((laidWorld Tryz.prog os).forCall (fun _ _ => 0) ⟨#[], #[.string ⟨#[]⟩, zeroA], []⟩).memory Tryz.f4.params.toList Rows.rangeAdmitsSpec.vars false #[Value.string ⟨#[]⟩, zeroA].toList 8 = some ([.lit (.string []), datV 0 0 0 ⟨#[]⟩ ⟨#[]⟩], [], places) :=
  ⟨[], by kernel_rfl⟩

set_option maxRecDepth 100000 in
theorem rangeAdmitsLifted (os : Os) (started : os.Started) (H : Type) (enc : TypeId × Value → H) (F : Stop.Interp) :
    ReturnsInHanded {} Tryz.checked os 4 .any ((Rows.OpenSpec.upto Rows.rangeAdmitsSpec).preRow enc Tryz.prog Tryz.f4 Rows.rangeAdmitsUptoRow.domain false Rows.rangeAdmitsUptoRow.laid) (((Rows.OpenSpec.upto Rows.rangeAdmitsSpec).at F).post enc Tryz.prog Tryz.f4 false true false false) := by
  obtain ⟨places, hx⟩ := rangeAdmitsReads os enc
  refine returnsInHanded_of_row (C := Tryz.checked) (s := Rows.OpenSpec.upto Rows.rangeAdmitsSpec) own started (by kernel_rfl) Tryz.func4
    (witness_row_at (enc := enc) (C := Tryz.checked) false (laidWorld Tryz.prog os) #[.string ⟨#[]⟩, zeroA] rfl (by kernel_rfl) (by kernel_rfl) (by kernel_rfl)
      (OpenSpec.preRow_of_cond 8 hx (by kernel_rfl) (fun k hk => by cases hk; kernel_rfl) (by kernel_rfl) (laid_met os))) ?_
  intro W base args ds gs before hval hW _ hcond _ hL _ _
  exact rangeAdmitsContract H enc W base args ds gs before hval hW hL (hcond _ rfl)

theorem rangeAdmitsAll : Rows.RangeAdmitsUptoSaid :=
  OpenClaim.holds_of_cond 4 Tryz.f4 rfl rfl rfl rfl rfl rfl rfl ⟨rfl, rfl, rfl, rfl, rfl⟩ rfl rfl rfl rfl rfl (by kernel_rfl) Tryz.func4 (by kernel_rfl)
    (of_decide_eq_true (by kernel_rfl)) (by unfold Func.isWrapper; first | (rw [if_pos (by decide +kernel)]; kernel_rfl) | (rw [if_neg (by decide +kernel)]; exact ⟨rfl, rfl⟩))
    (fun os started H enc _ F => by rw [OpenClaim.pre_eq_preRow]; exact rangeAdmitsLifted os started H enc F)

theorem rangeAdmitsPlain (f : FuncId) (fn : Func) (hf : Tryz.pinned.checked.prog.funcNamed "pantry/pantrylaw.RangeAdmits" = some f) (hfn : Tryz.pinned.checked.prog.funcs[f]? = some fn) :
    true = Tryz.pinned.checked.prog.looks [] ∧ ∀ (j : Nat) t, fn.params[j]? = some t → Tryz.pinned.checked.prog.wantsStandIn t = false := by
  obtain rfl : f = 4 := Option.some.inj ((show Tryz.prog.funcNamed "pantry/pantrylaw.RangeAdmits" = some 4 by kernel_rfl).symm.trans hf) |>.symm
  obtain rfl : fn = Tryz.f4 := (Option.some.inj (Tryz.func4.symm.trans hfn)).symm
  refine ⟨by kernel_rfl, fun j t ht => ?_⟩
  rw [Tryz.params4] at ht
  have hm := Array.mem_of_getElem? ht
  simp only [List.mem_toArray, List.mem_cons, List.not_mem_nil, or_false] at hm
  rcases hm with rfl | rfl
  · exact (show Tryz.prog.wantsStandIn 9 = false by kernel_rfl)
  · exact (show Tryz.prog.wantsStandIn 39 = false by kernel_rfl)

theorem rangeAdmitsUpto_card : Rows.RangeAdmitsUptoCardSaid :=
  Claim7.holds_tied_plain_at .later [] _ _ _ _ rangeAdmitsAll (fun _ h => by cases h) (by kernel_rfl) (fun _ h => by cases h) rangeAdmitsUpto_row_tie rfl ⟨rfl, rfl⟩ (by kernel_rfl) rfl rangeAdmitsPlain (by kernel_rfl)
end Go.Proofs.YtegapdmbpkfpmaaGreatDoor
