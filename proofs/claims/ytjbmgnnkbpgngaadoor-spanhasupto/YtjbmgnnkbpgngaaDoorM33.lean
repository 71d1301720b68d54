import Derived.Test.YtjbmgnnkbpgngaaDoorM30
import Derived.Test.YtjbmgnnkbpgngaaDoorM32
/-
  SpanHas, walked.
-/
namespace Go.Proofs.YtjbmgnnkbpgngaaDoor
open Go.RowKit
set_option linter.unusedVariables false

set_option maxHeartbeats 400000 in
theorem ordered_nil (w : World) : Calls Tryd.prog 14 #[.slice none 0 0] w fun e w' => e = .returned (.bool true) ∧ w.grownBy w' none := by
  go_enter Tryd.func14, Tryd.ntmps14
  go_wp2
  go_loopw [3] (fun vi wr => vi = .int .i64 0 ∧ w.grownBy wr none) (fun vi _ => 0)
  case atStart => exact ⟨rfl, gb_refl _ _⟩
  case round =>
    obtain ⟨rfl, hg⟩ := hrel
    have HG : Hid (w.grownBy wr none) := hg
    clear hg
    go_wp2
    go_ret
    exact ⟨rfl, HG.out⟩
theorem cOrdered (sl : Value) (T : List V) (k : Nat) (w : World) (h : SpS w sl (outs T)) (hT : NT T k) (hk : k ≤ 2) :
    Calls Tryd.prog 14 #[sl] w fun e w' => e = .returned (.bool true) ∧ w.grownBy w' none := by
  have hN := hT.nf hk
  have hl := hN.len
  rcases h with ⟨rfl, _⟩ | ⟨a, cap, rfl, h2, h3⟩
  · exact ordered_nil w
  · exact ordered_at a cap T (outs T) w rfl hT.up hN.small (by omega) h2 h3

/-- an answered list: its turns, and what it has -/
def TPost (f : V → Bool) (k : Nat) (w : World) (e : Ending) (w' : World) : Prop := w.grownBy w' none ∧ ∃ o n c T, e = .returned (.tuple #[.slice o n c, .int .i64 0]) ∧ SpS w' (.slice o n c) (outs T) ∧ NT T k ∧ ∀ x, holdsL (outs T) x = f x
theorem sweep_tpost {ch : Int → Bool} (h0 : ch 0 = false) {Ls : List (List Sp)} {f : V → Bool} {w : World} {e : Ending} {w' : World} (hsz : ∀ l ∈ Ls, l.length ≤ 1048576 ∧ ∀ s ∈ l, smallS s) (hsd : Ls.all (·.all soundS) = true) (hf : ∀ x, ch (haveN (Ls.map (·.map toSg)) x) = f x) (h : SweepPost ch Ls w e w') : TPost f Ls.length w e w' := by
  refine ⟨h.1, ?_⟩
  rcases h.2 with ⟨h1, h2⟩ | ⟨h1, E, vs, h2, h3, h4, h5, _⟩
  · exact absurd hsd h1
  · obtain ⟨o, n, c, rfl⟩ := sps_slice h5
    have hT := sweep_nt ch Ls hsz h1 E h2 h3
    refine ⟨o, n, c, _, h4, h5, hT, fun x => ?_⟩
    rw [outs_par _ hT.up]
    have hp := sweep_par ch h0 (Ls.map (·.map toSg)) (E.map toEd) (by rw [← erL_ed]; exact h2.map _) h3 x
    rw [List.length_map] at hp
    rw [hp, hf]
theorem cNormalT (sl : Value) (L : List Sp) (w : World) (h : SpS w sl L) (hL : L.length ≤ 1048576) (hsz : ∀ s ∈ L, smallS s) (hsd : L.all soundS = true) : Calls Tryd.prog 6 #[sl] w (TPost (holdsL L) 1 w) := by
  refine (normal_any sl L w h hL hsz).mono ?_
  intro e w' hp
  exact sweep_tpost (by decide) (by intro l hl; simp at hl; subst hl; exact ⟨hL, hsz⟩) (by simp [hsd]) (fun x => have_one L x) hp
theorem cMeetT (sl sm : Value) (L M : List Sp) (w : World) (h : SpS w sl L) (h' : SpS w sm M) (hL : L.length ≤ 1048576) (hsz : ∀ s ∈ L, smallS s) (hM : M.length ≤ 1048576) (hsm : ∀ s ∈ M, smallS s) (hsd : L.all soundS = true) (hsd' : M.all soundS = true) : Calls Tryd.prog 9 #[sl, sm] w (TPost (fun x => holdsL L x && holdsL M x) 2 w) := by
  refine (meet_any sl sm L M w h h' hL hsz hM hsm).mono ?_
  intro e w' hp
  exact sweep_tpost (by decide) (by intro l hl; simp at hl; rcases hl with rfl | rfl <;> first | exact ⟨hL, hsz⟩ | exact ⟨hM, hsm⟩) (by simp [hsd, hsd']) (fun x => have_all L M x) hp
theorem cJoinT (sl sm : Value) (L M : List Sp) (w : World) (h : SpS w sl L) (h' : SpS w sm M) (hL : L.length ≤ 1048576) (hsz : ∀ s ∈ L, smallS s) (hM : M.length ≤ 1048576) (hsm : ∀ s ∈ M, smallS s) (hsd : L.all soundS = true) (hsd' : M.all soundS = true) : Calls Tryd.prog 10 #[sl, sm] w (TPost (fun x => holdsL L x || holdsL M x) 2 w) := by
  refine (join_any sl sm L M w h h' hL hsz hM hsm).mono ?_
  intro e w' hp
  exact sweep_tpost (by decide) (by intro l hl; simp at hl; rcases hl with rfl | rfl <;> first | exact ⟨hL, hsz⟩ | exact ⟨hM, hsm⟩) (by simp [hsd, hsd']) (fun x => have_some L M x) hp
theorem cAgain (sl : Value) (T : List V) (w : World) (h : SpS w sl (outs T)) (hT : NT T 1) : Calls Tryd.prog 6 #[sl] w fun e w' => w.grownBy w' none ∧ ∃ o n c, e = .returned (.tuple #[.slice o n c, .int .i64 0]) ∧ SpS w' (.slice o n c) (outs T) := by
  have hl : (outs T).length ≤ 1048576 := by have h1 := outs_len2 T; have h2 := hT.ln; omega
  refine (cNormalT sl (outs T) w h hl (hT.nf (by omega)).small hT.sound).mono ?_
  rintro e w' ⟨hg, o, n, c, U, he, hs, hU, hp⟩
  have e1 : U = T := par_eq hU hT fun x => by rw [← outs_par U hU.up, hp, outs_par T hT.up]
  rw [e1] at hs
  exact ⟨hg, o, n, c, he, hs⟩

theorem keep5 {p0 p1 p2 p3 p4 : Addr} {c0 c1 c2 c3 c4 : Value} {w w' : World} (hg : w.grownBy w' none) (h : w.cell? p0 = some c0 ∧ w.cell? p1 = some c1 ∧ w.cell? p2 = some c2 ∧ w.cell? p3 = some c3 ∧ w.cell? p4 = some c4) : w'.cell? p0 = some c0 ∧ w'.cell? p1 = some c1 ∧ w'.cell? p2 = some c2 ∧ w'.cell? p3 = some c3 ∧ w'.cell? p4 = some c4 := by
  obtain ⟨h0, h1, h2, h3, h4⟩ := h
  exact ⟨hg.cell h0 (by simp), hg.cell h1 (by simp), hg.cell h2 (by simp), hg.cell h3 (by simp), hg.cell h4 (by simp)⟩

set_option maxRecDepth 100000 in
set_option maxHeartbeats 6400000 in
theorem hasLaw (sl sm : Value) (L M : List Sp) (v1 v2 v3 : Int) (v4 v5 : ByteArray) (w : World) (h : SpS w sl L) (h' : SpS w sm M) (hL : L.length ≤ 1048576) (hsz : ∀ s ∈ L, smallS s) (hM : M.length ≤ 1048576) (hsm : ∀ s ∈ M, smallS s) (hv : v4.size ≤ 1048576) :
    Calls Tryd.prog 3 #[sl, sm, .agg #[.int .i64 v1, .int .i64 v2, .int .i64 v3, .string v4, .string v5]] w fun e w' => e = .returned (.bool true) ∧ w.grownBy w' none := by
  obtain ⟨σ, hσ⟩ : ∃ σ, L.all soundS = σ := ⟨_, rfl⟩
  obtain ⟨τ, hτ⟩ : ∃ σ, M.all soundS = σ := ⟨_, rfl⟩
  obtain ⟨π, hπ⟩ : ∃ π, holdsL L ⟨v1, v2, v3, v4.data.toList⟩ = π := ⟨_, rfl⟩
  obtain ⟨κ, hκ⟩ : ∃ π, holdsL M ⟨v1, v2, v3, v4.data.toList⟩ = π := ⟨_, rfl⟩
  have AL : Hid (∀ w v, SpS w v L → Calls Tryd.prog 7 #[v] w fun e w' => ∃ v, e = .returned v ∧ SpS w' v L ∧ w.grownBy w' none) := fun w v h => cSpans v L w h hL
  have BL : Hid (∀ w v, SpS w v L → Calls Tryd.prog 5 #[v] w fun e w' => e = .returned (.bool σ) ∧ w.grownBy w' none) := fun w v h => by rw [← hσ]; exact cSoundR v L w h hL hsz
  have HL : Hid (∀ w v, SpS w v L → Calls Tryd.prog 11 #[v, .agg #[.int .i64 v1, .int .i64 v2, .int .i64 v3, .string v4, .string v5]] w fun e w' => e = .returned (.bool π) ∧ w.grownBy w' none) := fun w v h => by rw [← hπ]; exact cHoldsP v L v1 v2 v3 v4 v5 w h hL hsz hv
  have AM : Hid (∀ w v, SpS w v M → Calls Tryd.prog 7 #[v] w fun e w' => ∃ v, e = .returned v ∧ SpS w' v M ∧ w.grownBy w' none) := fun w v h => cSpans v M w h hM
  have BM : Hid (∀ w v, SpS w v M → Calls Tryd.prog 5 #[v] w fun e w' => e = .returned (.bool τ) ∧ w.grownBy w' none) := fun w v h => by rw [← hτ]; exact cSoundR v M w h hM hsm
  have HM : Hid (∀ w v, SpS w v M → Calls Tryd.prog 11 #[v, .agg #[.int .i64 v1, .int .i64 v2, .int .i64 v3, .string v4, .string v5]] w fun e w' => e = .returned (.bool κ) ∧ w.grownBy w' none) := fun w v h => by rw [← hκ]; exact cHoldsP v M v1 v2 v3 v4 v5 w h hM hsm hv
  have NP : Hid (∀ w v, SpS w v L → Calls Tryd.prog 6 #[v] w (NPost σ w)) := fun w v h => by rw [← hσ]; exact cNormal v L w h hL hsz
  have NQ : Hid (σ = true → ∀ w v, SpS w v L → Calls Tryd.prog 6 #[v] w (TPost (holdsL L) 1 w)) := fun hs w v h => cNormalT v L w h hL hsz (by rw [hσ]; exact hs)
  have CM : Hid (σ = true → τ = true → ∀ w a b, SpS w a L → SpS w b M → Calls Tryd.prog 9 #[a, b] w (TPost (fun x => holdsL L x && holdsL M x) 2 w)) := fun hs ht w a b h h' => cMeetT a b L M w h h' hL hsz hM hsm (by rw [hσ]; exact hs) (by rw [hτ]; exact ht)
  have CJ : Hid (σ = true → τ = true → ∀ w a b, SpS w a L → SpS w b M → Calls Tryd.prog 10 #[a, b] w (TPost (fun x => holdsL L x || holdsL M x) 2 w)) := fun hs ht w a b h h' => cJoinT a b L M w h h' hL hsz hM hsm (by rw [hσ]; exact hs) (by rw [hτ]; exact ht)
  have CH : Hid (∀ (T : List V) (k : Nat) (f : V → Bool) (w : World) (v : Value), NT T k → k ≤ 2 → (∀ x, holdsL (outs T) x = f x) → SpS w v (outs T) → Calls Tryd.prog 11 #[v, .agg #[.int .i64 v1, .int .i64 v2, .int .i64 v3, .string v4, .string v5]] w fun e w' => e = .returned (.bool (f ⟨v1, v2, v3, v4.data.toList⟩)) ∧ w.grownBy w' none) := fun T k f w v hT hk hf h => by rw [← hf]; exact cHoldsQ v (outs T) v1 v2 v3 v4 v5 w h (hT.nf hk).len (hT.nf hk).small hv
  have CN : Hid (∀ E w, Calls Tryd.prog 8 #[.int .i64 E] w fun e w' => e = .returned (.int .i64 E) ∧ w.grownBy w' none) := fun E w => lnum_gb E w
  have Va : Hid (∀ w, Calls Tryd.prog 12 #[.agg #[.int .i64 v1, .int .i64 v2, .int .i64 v3, .string v4, .string v5]] w fun e w' => e = .returned (.agg #[.int .i64 v1, .int .i64 v2, .int .i64 v3, .string v4, .string v5]) ∧ w.grownBy w' none) := fun w => vers_any _ _ _ _ _ w
  have Hπ : Hid (holdsL L ⟨v1, v2, v3, v4.data.toList⟩ = π ∧ holdsL M ⟨v1, v2, v3, v4.data.toList⟩ = κ) := ⟨hπ, hκ⟩
  have HA : Hid (SpS w sl L) := h
  have HB : Hid (SpS w sm M) := h'
  have HG : Hid (w.grownBy w none) := gb_refl w none
  clear h h' hL hsz hM hsm hσ hτ hπ hκ hv
  go_enter Tryd.func3, Tryd.ntmps3
  go_wp2_with (first | (go_at_call 5; refine (BL.out _ _ (HA.out.grow (gb_alloc (gb_refl w none) _))).mono ?_))
  rintro e w1 ⟨rfl, hg⟩
  obtain ⟨A, hA⟩ : ∃ A, w.heap.size = A := ⟨_, rfl⟩
  have STv : Hid (St A v1 v2 v3 v4 v5 w1) := by
    show St A v1 v2 v3 v4 v5 w1
    rw [← hA]; exact (st_row (t := 24) (heap_alloc_new w _)).grow hg
  replace HG : Hid (w.grownBy w1 none) := gb_trans (gb_alloc (gb_refl w none) _) hg
  replace HA : Hid (SpS w1 sl L) := HA.out.grow HG.out
  replace HB : Hid (SpS w1 sm M) := HB.out.grow HG.out
  rw [hA]
  clear hA hg
  go_wp2_with (first | (go_at_call 5; refine (BM.out _ _ HB.out).mono ?_))
  rintro e w2 ⟨rfl, hg⟩
  replace HG : Hid (w.grownBy w2 none) := gb_trans HG.out hg
  replace STv : Hid (St A v1 v2 v3 v4 v5 w2) := STv.out.grow hg
  replace HA : Hid (SpS w2 sl L) := HA.out.grow hg
  replace HB : Hid (SpS w2 sm M) := HB.out.grow hg
  clear hg
  go_wp2_with (first | (go_at_call 7; refine (AL.out _ _ HA.out).mono ?_))
  rintro e w3 ⟨m, rfl, hm, hg⟩
  replace HG : Hid (w.grownBy w3 none) := gb_trans HG.out hg
  replace STv : Hid (St A v1 v2 v3 v4 v5 w3) := STv.out.grow hg
  replace HA : Hid (SpS w3 sl L) := HA.out.grow hg
  replace HB : Hid (SpS w3 sm M) := HB.out.grow hg
  clear hg
  have HM : Hid (SpS w3 m L) := hm
  clear hm
  cases σ with
  | false =>
    go_wp2_with (first | (go_at_call 6; refine (NP.out _ _ HM.out).mono ?_))
    rintro e w4 ⟨hg, hn⟩
    obtain rfl : e = .returned (.tuple #[.slice none 0 0, .int .i64 2]) := by rcases hn with ⟨_, h⟩ | ⟨h, _⟩; exact h; cases h
    clear hn
    replace HG : Hid (w.grownBy w4 none) := gb_trans HG.out hg
    replace STv : Hid (St A v1 v2 v3 v4 v5 w4) := STv.out.grow hg
    clear hg
    cases τ with
    | false =>
      go_wp2_with (first | (go_at_call 8; refine (CN.out _ _).mono ?_))
      rintro e w5 ⟨rfl, hg⟩
      replace HG : Hid (w.grownBy w5 none) := gb_trans HG.out hg
      clear hg
      go_wp2
      go_ret
      exact ⟨rfl, HG.out⟩
    | true =>
      go_wp2_with (first | (go_at_call 8; refine (CN.out _ _).mono ?_))
      rintro e w5 ⟨rfl, hg⟩
      replace HG : Hid (w.grownBy w5 none) := gb_trans HG.out hg
      clear hg
      go_wp2
      go_ret
      exact ⟨rfl, HG.out⟩
  | true =>
    have NQ1 : Hid (∀ w v, SpS w v L → Calls Tryd.prog 6 #[v] w (TPost (holdsL L) 1 w)) := fun w v h => NQ.out rfl w v h
    clear NQ NP
    go_wp2_with (first | (go_at_call 6; refine (NQ1.out _ _ HM.out).mono ?_))
    rintro e w4 ⟨hg, o1, n1, c1, T1, rfl, hs1, hT1, hf1⟩
    clear HM
    replace HG : Hid (w.grownBy w4 none) := gb_trans HG.out hg
    replace STv : Hid (St A v1 v2 v3 v4 v5 w4) := STv.out.grow hg
    replace HA : Hid (SpS w4 sl L) := HA.out.grow hg
    replace HB : Hid (SpS w4 sm M) := HB.out.grow hg
    clear hg
    have H1 : Hid (SpS w4 (.slice o1 n1 c1) (outs T1)) := hs1
    have F1 : Hid (NT T1 1 ∧ ∀ x, holdsL (outs T1) x = holdsL L x) := ⟨hT1, hf1⟩
    clear hs1 hT1 hf1
    cases τ with
    | false =>
      go_wp2_with (first | (go_at_call 8; refine (CN.out _ _).mono ?_))
      rintro e w5 ⟨rfl, hg⟩
      replace HG : Hid (w.grownBy w5 none) := gb_trans HG.out hg
      clear hg
      go_wp2
      go_ret
      exact ⟨rfl, HG.out⟩
    | true =>
      have CM1 : Hid (∀ w a b, SpS w a L → SpS w b M → Calls Tryd.prog 9 #[a, b] w (TPost (fun x => holdsL L x && holdsL M x) 2 w)) := fun w a b h h2 => CM.out (by first | rfl | trivial) (by first | rfl | trivial) w a b h h2
      have CJ1 : Hid (∀ w a b, SpS w a L → SpS w b M → Calls Tryd.prog 10 #[a, b] w (TPost (fun x => holdsL L x || holdsL M x) 2 w)) := fun w a b h h2 => CJ.out (by first | rfl | trivial) (by first | rfl | trivial) w a b h h2
      clear CM CJ
      go_wp2_with (first | (go_at_call 6; refine (cAgain _ T1 _ H1.out F1.out.1).mono ?_))
      rintro e w5 ⟨hg, o2, n2, c2, rfl, hs2⟩
      replace HG : Hid (w.grownBy w5 none) := gb_trans HG.out hg
      replace STv : Hid (St A v1 v2 v3 v4 v5 w5) := STv.out.grow hg
      replace HA : Hid (SpS w5 sl L) := HA.out.grow hg
      replace HB : Hid (SpS w5 sm M) := HB.out.grow hg
      replace H1 : Hid (SpS w5 (.slice o1 n1 c1) (outs T1)) := H1.out.grow hg
      clear hg
      have H2 : Hid (SpS w5 (.slice o2 n2 c2) (outs T1)) := hs2
      clear hs2
      go_wp2_with (first | (go_at_call 7; refine (AL.out _ _ HA.out).mono ?_))
      rintro e w6 ⟨ma, rfl, hma, hg⟩
      replace HG : Hid (w.grownBy w6 none) := gb_trans HG.out hg
      replace STv : Hid (St A v1 v2 v3 v4 v5 w6) := STv.out.grow hg
      replace HA : Hid (SpS w6 sl L) := HA.out.grow hg
      replace HB : Hid (SpS w6 sm M) := HB.out.grow hg
      replace H1 : Hid (SpS w6 (.slice o1 n1 c1) (outs T1)) := H1.out.grow hg
      replace H2 : Hid (SpS w6 (.slice o2 n2 c2) (outs T1)) := H2.out.grow hg
      clear hg
      have HMA : Hid (SpS w6 ma L) := hma
      clear hma
      go_wp2_with (first | (go_at_call 7; refine (AM.out _ _ HB.out).mono ?_))
      rintro e w7 ⟨mb, rfl, hmb, hg⟩
      replace HMA : Hid (SpS w7 ma L) := HMA.out.grow hg
      replace HG : Hid (w.grownBy w7 none) := gb_trans HG.out hg
      replace STv : Hid (St A v1 v2 v3 v4 v5 w7) := STv.out.grow hg
      replace HA : Hid (SpS w7 sl L) := HA.out.grow hg
      replace HB : Hid (SpS w7 sm M) := HB.out.grow hg
      replace H1 : Hid (SpS w7 (.slice o1 n1 c1) (outs T1)) := H1.out.grow hg
      replace H2 : Hid (SpS w7 (.slice o2 n2 c2) (outs T1)) := H2.out.grow hg
      clear hg
      have HMB : Hid (SpS w7 mb M) := hmb
      clear hmb
      go_wp2_with (first | (go_at_call 9; refine (CM1.out _ _ _ HMA.out HMB.out).mono ?_))
      rintro e w8 ⟨hg, o3, n3, c3, T3, rfl, hs, hT, hf⟩
      clear HMA HMB
      replace HG : Hid (w.grownBy w8 none) := gb_trans HG.out hg
      replace STv : Hid (St A v1 v2 v3 v4 v5 w8) := STv.out.grow hg
      replace HA : Hid (SpS w8 sl L) := HA.out.grow hg
      replace HB : Hid (SpS w8 sm M) := HB.out.grow hg
      replace H1 : Hid (SpS w8 (.slice o1 n1 c1) (outs T1)) := H1.out.grow hg
      replace H2 : Hid (SpS w8 (.slice o2 n2 c2) (outs T1)) := H2.out.grow hg
      clear hg
      have H3 : Hid (SpS w8 (.slice o3 n3 c3) (outs T3)) := hs
      have F3 : Hid (NT T3 2 ∧ ∀ x, holdsL (outs T3) x = (fun x => holdsL L x && holdsL M x) x) := ⟨hT, hf⟩
      clear hs hT hf
      go_wp2_with (first | (go_at_call 7; refine (AL.out _ _ HA.out).mono ?_))
      rintro e w9 ⟨ma, rfl, hma, hg⟩
      replace HG : Hid (w.grownBy w9 none) := gb_trans HG.out hg
      replace STv : Hid (St A v1 v2 v3 v4 v5 w9) := STv.out.grow hg
      replace HA : Hid (SpS w9 sl L) := HA.out.grow hg
      replace HB : Hid (SpS w9 sm M) := HB.out.grow hg
      replace H1 : Hid (SpS w9 (.slice o1 n1 c1) (outs T1)) := H1.out.grow hg
      replace H2 : Hid (SpS w9 (.slice o2 n2 c2) (outs T1)) := H2.out.grow hg
      replace H3 : Hid (SpS w9 (.slice o3 n3 c3) (outs T3)) := H3.out.grow hg
      clear hg
      have HMA : Hid (SpS w9 ma L) := hma
      clear hma
      go_wp2_with (first | (go_at_call 7; refine (AM.out _ _ HB.out).mono ?_))
      rintro e w10 ⟨mb, rfl, hmb, hg⟩
      replace HMA : Hid (SpS w10 ma L) := HMA.out.grow hg
      replace HG : Hid (w.grownBy w10 none) := gb_trans HG.out hg
      replace STv : Hid (St A v1 v2 v3 v4 v5 w10) := STv.out.grow hg
      replace HA : Hid (SpS w10 sl L) := HA.out.grow hg
      replace HB : Hid (SpS w10 sm M) := HB.out.grow hg
      replace H1 : Hid (SpS w10 (.slice o1 n1 c1) (outs T1)) := H1.out.grow hg
      replace H2 : Hid (SpS w10 (.slice o2 n2 c2) (outs T1)) := H2.out.grow hg
      replace H3 : Hid (SpS w10 (.slice o3 n3 c3) (outs T3)) := H3.out.grow hg
      clear hg
      have HMB : Hid (SpS w10 mb M) := hmb
      clear hmb
      go_wp2_with (first | (go_at_call 10; refine (CJ1.out _ _ _ HMA.out HMB.out).mono ?_))
      rintro e w11 ⟨hg, o4, n4, c4, T4, rfl, hs, hT, hf⟩
      clear HMA HMB
      replace HG : Hid (w.grownBy w11 none) := gb_trans HG.out hg
      replace STv : Hid (St A v1 v2 v3 v4 v5 w11) := STv.out.grow hg
      replace HA : Hid (SpS w11 sl L) := HA.out.grow hg
      replace HB : Hid (SpS w11 sm M) := HB.out.grow hg
      replace H1 : Hid (SpS w11 (.slice o1 n1 c1) (outs T1)) := H1.out.grow hg
      replace H2 : Hid (SpS w11 (.slice o2 n2 c2) (outs T1)) := H2.out.grow hg
      replace H3 : Hid (SpS w11 (.slice o3 n3 c3) (outs T3)) := H3.out.grow hg
      clear hg
      have H4 : Hid (SpS w11 (.slice o4 n4 c4) (outs T4)) := hs
      have F4 : Hid (NT T4 2 ∧ ∀ x, holdsL (outs T4) x = (fun x => holdsL L x || holdsL M x) x) := ⟨hT, hf⟩
      clear hs hT hf
      obtain ⟨s1, s2, s3, s4, s5⟩ := STv.out
      go_wp2
      go_region_held3 (fun w' => w'.cell? ⟨A, 0, none⟩ = some (.int .i64 v1) ∧ w'.cell? ⟨A, 1, none⟩ = some (.int .i64 v2) ∧ w'.cell? ⟨A, 2, none⟩ = some (.int .i64 v3) ∧ w'.cell? ⟨A, 3, none⟩ = some (.string v4) ∧ w'.cell? ⟨A, 4, none⟩ = some (.string v5)) ((first | exact keep5 (by assumption) (by assumption) | go_keep)) (first | (go_at_call 7; refine (AL.out _ _ (HA.out.grow (by first | exact gb_drew (gb_refl _ _) _ | exact gb_refl _ _))).mono ?_; rintro e xa ⟨ma, rfl, hma, hg1⟩) | (go_at_call 12; refine (Va.out _).mono ?_; rintro e xb ⟨rfl, hg2⟩) | (go_at_call 11; refine (HL.out _ _ (hma.grow hg2)).mono ?_; rintro e xc ⟨rfl, hg3⟩))
      have hg := gb_trans (gb_undrew hg1) (gb_trans hg2 hg3)
      clear hma hg1 hg2 hg3 s1 s2 s3 s4 s5
      replace HG : Hid (w.grownBy xc none) := gb_trans HG.out hg
      replace STv : Hid (St A v1 v2 v3 v4 v5 xc) := STv.out.grow hg
      replace HA : Hid (SpS xc sl L) := HA.out.grow hg
      replace HB : Hid (SpS xc sm M) := HB.out.grow hg
      replace H1 : Hid (SpS xc (.slice o1 n1 c1) (outs T1)) := H1.out.grow hg
      replace H2 : Hid (SpS xc (.slice o2 n2 c2) (outs T1)) := H2.out.grow hg
      replace H3 : Hid (SpS xc (.slice o3 n3 c3) (outs T3)) := H3.out.grow hg
      replace H4 : Hid (SpS xc (.slice o4 n4 c4) (outs T4)) := H4.out.grow hg
      clear hg
      obtain ⟨s1, s2, s3, s4, s5⟩ := STv.out
      go_wp2
      go_region_held3 (fun w' => w'.cell? ⟨A, 0, none⟩ = some (.int .i64 v1) ∧ w'.cell? ⟨A, 1, none⟩ = some (.int .i64 v2) ∧ w'.cell? ⟨A, 2, none⟩ = some (.int .i64 v3) ∧ w'.cell? ⟨A, 3, none⟩ = some (.string v4) ∧ w'.cell? ⟨A, 4, none⟩ = some (.string v5)) ((first | exact keep5 (by assumption) (by assumption) | go_keep)) (first | (go_at_call 7; refine (AM.out _ _ (HB.out.grow (by first | exact gb_drew (gb_refl _ _) _ | exact gb_refl _ _))).mono ?_; rintro e ya ⟨ma, rfl, hma, hg1⟩) | (go_at_call 12; refine (Va.out _).mono ?_; rintro e yb ⟨rfl, hg2⟩) | (go_at_call 11; refine (HM.out _ _ (hma.grow hg2)).mono ?_; rintro e yc ⟨rfl, hg3⟩))
      have hg := gb_trans (gb_undrew hg1) (gb_trans hg2 hg3)
      clear hma hg1 hg2 hg3 s1 s2 s3 s4 s5
      replace HG : Hid (w.grownBy yc none) := gb_trans HG.out hg
      replace STv : Hid (St A v1 v2 v3 v4 v5 yc) := STv.out.grow hg
      replace HA : Hid (SpS yc sl L) := HA.out.grow hg
      replace HB : Hid (SpS yc sm M) := HB.out.grow hg
      replace H1 : Hid (SpS yc (.slice o1 n1 c1) (outs T1)) := H1.out.grow hg
      replace H2 : Hid (SpS yc (.slice o2 n2 c2) (outs T1)) := H2.out.grow hg
      replace H3 : Hid (SpS yc (.slice o3 n3 c3) (outs T3)) := H3.out.grow hg
      replace H4 : Hid (SpS yc (.slice o4 n4 c4) (outs T4)) := H4.out.grow hg
      clear hg
      obtain ⟨s1, s2, s3, s4, s5⟩ := STv.out
      clear HA HB AL AM BL BM HL HM
      go_wp2_with (first | (go_at_call 12; refine (Va.out _).mono ?_))
      rintro e ra ⟨rfl, hg⟩
      replace HG : Hid (w.grownBy ra none) := gb_trans HG.out hg
      replace STv : Hid (St A v1 v2 v3 v4 v5 ra) := STv.out.grow hg
      replace H1 : Hid (SpS ra (.slice o1 n1 c1) (outs T1)) := H1.out.grow hg
      replace H2 : Hid (SpS ra (.slice o2 n2 c2) (outs T1)) := H2.out.grow hg
      replace H3 : Hid (SpS ra (.slice o3 n3 c3) (outs T3)) := H3.out.grow hg
      replace H4 : Hid (SpS ra (.slice o4 n4 c4) (outs T4)) := H4.out.grow hg
      clear hg
      go_wp2_with (first | (go_at_call 11; refine (CH.out T1 1 (fun x => holdsL L x) _ _ F1.out.1 (by omega) F1.out.2 H1.out).mono ?_))
      rintro e rb ⟨rfl, hg⟩
      replace HG : Hid (w.grownBy rb none) := gb_trans HG.out hg
      replace STv : Hid (St A v1 v2 v3 v4 v5 rb) := STv.out.grow hg
      replace H1 : Hid (SpS rb (.slice o1 n1 c1) (outs T1)) := H1.out.grow hg
      replace H2 : Hid (SpS rb (.slice o2 n2 c2) (outs T1)) := H2.out.grow hg
      replace H3 : Hid (SpS rb (.slice o3 n3 c3) (outs T3)) := H3.out.grow hg
      replace H4 : Hid (SpS rb (.slice o4 n4 c4) (outs T4)) := H4.out.grow hg
      clear hg
      clear s1 s2 s3 s4 s5
      obtain ⟨s1, s2, s3, s4, s5⟩ := STv.out
      dsimp only
      rw [Hπ.out.1]
      go_wp2_with (first | (go_at_call 12; refine (Va.out _).mono ?_))
      rintro e qa ⟨rfl, hg⟩
      replace HG : Hid (w.grownBy qa none) := gb_trans HG.out hg
      replace STv : Hid (St A v1 v2 v3 v4 v5 qa) := STv.out.grow hg
      replace H1 : Hid (SpS qa (.slice o1 n1 c1) (outs T1)) := H1.out.grow hg
      replace H2 : Hid (SpS qa (.slice o2 n2 c2) (outs T1)) := H2.out.grow hg
      replace H3 : Hid (SpS qa (.slice o3 n3 c3) (outs T3)) := H3.out.grow hg
      replace H4 : Hid (SpS qa (.slice o4 n4 c4) (outs T4)) := H4.out.grow hg
      clear hg
      go_wp2_with (first | (go_at_call 11; refine (CH.out T3 2 (fun x => holdsL L x && holdsL M x) _ _ F3.out.1 (by omega) F3.out.2 H3.out).mono ?_))
      rintro e qb ⟨rfl, hg⟩
      replace HG : Hid (w.grownBy qb none) := gb_trans HG.out hg
      replace STv : Hid (St A v1 v2 v3 v4 v5 qb) := STv.out.grow hg
      replace H1 : Hid (SpS qb (.slice o1 n1 c1) (outs T1)) := H1.out.grow hg
      replace H2 : Hid (SpS qb (.slice o2 n2 c2) (outs T1)) := H2.out.grow hg
      replace H3 : Hid (SpS qb (.slice o3 n3 c3) (outs T3)) := H3.out.grow hg
      replace H4 : Hid (SpS qb (.slice o4 n4 c4) (outs T4)) := H4.out.grow hg
      clear hg
      clear s1 s2 s3 s4 s5
      obtain ⟨s1, s2, s3, s4, s5⟩ := STv.out
      dsimp only
      rw [Hπ.out.1, Hπ.out.2]
      go_wp2_with (first | (go_at_call 12; refine (Va.out _).mono ?_))
      rintro e ta ⟨rfl, hg⟩
      replace HG : Hid (w.grownBy ta none) := gb_trans HG.out hg
      replace STv : Hid (St A v1 v2 v3 v4 v5 ta) := STv.out.grow hg
      replace H1 : Hid (SpS ta (.slice o1 n1 c1) (outs T1)) := H1.out.grow hg
      replace H2 : Hid (SpS ta (.slice o2 n2 c2) (outs T1)) := H2.out.grow hg
      replace H3 : Hid (SpS ta (.slice o3 n3 c3) (outs T3)) := H3.out.grow hg
      replace H4 : Hid (SpS ta (.slice o4 n4 c4) (outs T4)) := H4.out.grow hg
      clear hg
      go_wp2_with (first | (go_at_call 11; refine (CH.out T4 2 (fun x => holdsL L x || holdsL M x) _ _ F4.out.1 (by omega) F4.out.2 H4.out).mono ?_))
      rintro e tb ⟨rfl, hg⟩
      replace HG : Hid (w.grownBy tb none) := gb_trans HG.out hg
      replace STv : Hid (St A v1 v2 v3 v4 v5 tb) := STv.out.grow hg
      replace H1 : Hid (SpS tb (.slice o1 n1 c1) (outs T1)) := H1.out.grow hg
      replace H2 : Hid (SpS tb (.slice o2 n2 c2) (outs T1)) := H2.out.grow hg
      replace H3 : Hid (SpS tb (.slice o3 n3 c3) (outs T3)) := H3.out.grow hg
      replace H4 : Hid (SpS tb (.slice o4 n4 c4) (outs T4)) := H4.out.grow hg
      clear hg
      clear s1 s2 s3 s4 s5
      obtain ⟨s1, s2, s3, s4, s5⟩ := STv.out
      dsimp only
      rw [Hπ.out.1, Hπ.out.2]
      clear s1 s2 s3 s4 s5 Va CH Hπ
      go_wp2_with (first | (go_at_call 13; refine (cEqual _ _ (outs T1) _ H1.out H2.out (by have h1 := outs_len2 T1; have h2 := F1.out.1.ln; omega)).mono ?_))
      rintro e ea ⟨rfl, hg⟩
      replace HG : Hid (w.grownBy ea none) := gb_trans HG.out hg
      replace STv : Hid (St A v1 v2 v3 v4 v5 ea) := STv.out.grow hg
      replace H1 : Hid (SpS ea (.slice o1 n1 c1) (outs T1)) := H1.out.grow hg
      replace H2 : Hid (SpS ea (.slice o2 n2 c2) (outs T1)) := H2.out.grow hg
      replace H3 : Hid (SpS ea (.slice o3 n3 c3) (outs T3)) := H3.out.grow hg
      replace H4 : Hid (SpS ea (.slice o4 n4 c4) (outs T4)) := H4.out.grow hg
      clear hg
      go_wp2_with (first | (go_at_call 14; refine (cOrdered _ T1 1 _ H1.out F1.out.1 (by omega)).mono ?_))
      rintro e eb ⟨rfl, hg⟩
      replace HG : Hid (w.grownBy eb none) := gb_trans HG.out hg
      replace STv : Hid (St A v1 v2 v3 v4 v5 eb) := STv.out.grow hg
      replace H1 : Hid (SpS eb (.slice o1 n1 c1) (outs T1)) := H1.out.grow hg
      replace H2 : Hid (SpS eb (.slice o2 n2 c2) (outs T1)) := H2.out.grow hg
      replace H3 : Hid (SpS eb (.slice o3 n3 c3) (outs T3)) := H3.out.grow hg
      replace H4 : Hid (SpS eb (.slice o4 n4 c4) (outs T4)) := H4.out.grow hg
      clear hg
      go_wp2_with (first | (go_at_call 14; refine (cOrdered _ T3 2 _ H3.out F3.out.1 (by omega)).mono ?_))
      rintro e ec ⟨rfl, hg⟩
      replace HG : Hid (w.grownBy ec none) := gb_trans HG.out hg
      replace STv : Hid (St A v1 v2 v3 v4 v5 ec) := STv.out.grow hg
      replace H1 : Hid (SpS ec (.slice o1 n1 c1) (outs T1)) := H1.out.grow hg
      replace H2 : Hid (SpS ec (.slice o2 n2 c2) (outs T1)) := H2.out.grow hg
      replace H3 : Hid (SpS ec (.slice o3 n3 c3) (outs T3)) := H3.out.grow hg
      replace H4 : Hid (SpS ec (.slice o4 n4 c4) (outs T4)) := H4.out.grow hg
      clear hg
      go_wp2_with (first | (go_at_call 14; refine (cOrdered _ T4 2 _ H4.out F4.out.1 (by omega)).mono ?_))
      rintro e ed ⟨rfl, hg⟩
      replace HG : Hid (w.grownBy ed none) := gb_trans HG.out hg
      replace STv : Hid (St A v1 v2 v3 v4 v5 ed) := STv.out.grow hg
      replace H1 : Hid (SpS ed (.slice o1 n1 c1) (outs T1)) := H1.out.grow hg
      replace H2 : Hid (SpS ed (.slice o2 n2 c2) (outs T1)) := H2.out.grow hg
      replace H3 : Hid (SpS ed (.slice o3 n3 c3) (outs T3)) := H3.out.grow hg
      replace H4 : Hid (SpS ed (.slice o4 n4 c4) (outs T4)) := H4.out.grow hg
      clear hg
      clear H1 H2 H3 H4 F1 F3 F4 STv
      cases π with
      | false =>
        cases κ with
        | false =>
          go_wp2_with (first | (go_at_call 8; refine (CN.out _ _).mono ?_))
          rintro e na ⟨rfl, hg⟩
          replace HG : Hid (w.grownBy na none) := gb_trans HG.out hg
          clear hg
          go_wp2_with (first | (go_at_call 8; refine (CN.out _ _).mono ?_))
          rintro e nb ⟨rfl, hg⟩
          replace HG : Hid (w.grownBy nb none) := gb_trans HG.out hg
          clear hg
          go_wp2_with (first | (go_at_call 8; refine (CN.out _ _).mono ?_))
          rintro e nc ⟨rfl, hg⟩
          replace HG : Hid (w.grownBy nc none) := gb_trans HG.out hg
          clear hg
          go_wp2
          go_ret
          exact ⟨rfl, HG.out⟩
        | true =>
          go_wp2_with (first | (go_at_call 8; refine (CN.out _ _).mono ?_))
          rintro e na ⟨rfl, hg⟩
          replace HG : Hid (w.grownBy na none) := gb_trans HG.out hg
          clear hg
          go_wp2_with (first | (go_at_call 8; refine (CN.out _ _).mono ?_))
          rintro e nb ⟨rfl, hg⟩
          replace HG : Hid (w.grownBy nb none) := gb_trans HG.out hg
          clear hg
          go_wp2_with (first | (go_at_call 8; refine (CN.out _ _).mono ?_))
          rintro e nc ⟨rfl, hg⟩
          replace HG : Hid (w.grownBy nc none) := gb_trans HG.out hg
          clear hg
          go_wp2
          go_ret
          exact ⟨rfl, HG.out⟩
      | true =>
        cases κ with
        | false =>
          go_wp2_with (first | (go_at_call 8; refine (CN.out _ _).mono ?_))
          rintro e na ⟨rfl, hg⟩
          replace HG : Hid (w.grownBy na none) := gb_trans HG.out hg
          clear hg
          go_wp2_with (first | (go_at_call 8; refine (CN.out _ _).mono ?_))
          rintro e nb ⟨rfl, hg⟩
          replace HG : Hid (w.grownBy nb none) := gb_trans HG.out hg
          clear hg
          go_wp2_with (first | (go_at_call 8; refine (CN.out _ _).mono ?_))
          rintro e nc ⟨rfl, hg⟩
          replace HG : Hid (w.grownBy nc none) := gb_trans HG.out hg
          clear hg
          go_wp2
          go_ret
          exact ⟨rfl, HG.out⟩
        | true =>
          go_wp2_with (first | (go_at_call 8; refine (CN.out _ _).mono ?_))
          rintro e na ⟨rfl, hg⟩
          replace HG : Hid (w.grownBy na none) := gb_trans HG.out hg
          clear hg
          go_wp2_with (first | (go_at_call 8; refine (CN.out _ _).mono ?_))
          rintro e nb ⟨rfl, hg⟩
          replace HG : Hid (w.grownBy nb none) := gb_trans HG.out hg
          clear hg
          go_wp2_with (first | (go_at_call 8; refine (CN.out _ _).mono ?_))
          rintro e nc ⟨rfl, hg⟩
          replace HG : Hid (w.grownBy nc none) := gb_trans HG.out hg
          clear hg
          go_wp2
          go_ret
          exact ⟨rfl, HG.out⟩
end Go.Proofs.YtjbmgnnkbpgngaaDoor
