import Derived.Test.YtenomeopkncaaaaGreatDoorM36
/-
  SpanNormals, walked.
-/
namespace Go.Proofs.YtenomeopkncaaaaGreatDoor
open Go.RowKit
set_option linter.unusedVariables false

/-- spans that lie elsewhere stay where a row is written -/
theorem SpS.far {w w' : World} {sl : Value} {L : List Sp} {g : Nat} (h : SpS w sl L) (hg : w.grownBy w' (some g)) (hn : ∀ a n c, sl = .slice (some a) n c → 0 < n → a.block ≠ g) : SpS w' sl L := by
  rcases h with h | ⟨a, cap, h1, h2, h3⟩
  · exact Or.inl h
  · refine Or.inr ⟨a, cap, h1, h2, fun i hi => ?_⟩
    have hb : ∀ k, some (a.add k).block ≠ some g := fun k e => by
      rw [add_block] at e
      exact hn a _ _ h1 (by omega) (Option.some.inj e)
    obtain ⟨e0, e1, e2, e3, e4, e5, e6, e7, e8, e9, e10⟩ := h3 i hi
    exact ⟨hg.cell e0 (hb _), hg.cell e1 (hb _), hg.cell e2 (hb _), hg.cell e3 (hb _), hg.cell e4 (hb _), hg.cell e5 (hb _), hg.cell e6 (hb _), hg.cell e7 (hb _), hg.cell e8 (hb _), hg.cell e9 (hb _), hg.cell e10 (hb _)⟩
theorem SpS.at {w : World} {L : List Sp} {a : Addr} {n c : Nat} (h : SpS w (.slice (some a) n c) L) (hn : 0 < n) : a.block < w.heap.size := by
  rcases h with ⟨h, _⟩ | ⟨a', cap, h1, h2, h3⟩
  · cases h
  · cases h1
    have := (h3 0 (by omega)).1
    have := cell_lt this
    rw [add_block] at this
    exact this
/-- one span, as a literal -/
def oneSp : Sp := ⟨1, 0, 0, ⟨#[]⟩, ⟨#[]⟩, 0, 0, 0, ⟨#[]⟩, ⟨#[]⟩, true⟩
theorem oneSp_at (w : World) (t : TypeId) : SpS (w.alloc (.cells #[.int .i64 1, .int .i64 0, .int .i64 0, .string ⟨#[]⟩, .string ⟨#[]⟩, .int .i64 0, .int .i64 0, .int .i64 0, .string ⟨#[]⟩, .string ⟨#[]⟩, .bool true] t)) (.slice (some ⟨w.heap.size, 0, none⟩) 1 1) [oneSp] := by
  refine Or.inr ⟨⟨w.heap.size, 0, none⟩, 1, rfl, Nat.le_refl _, fun i hi => ?_⟩
  have hi0 : i = 0 := by simp at hi; omega
  subst hi0
  refine elt_of_cells fun k u hu => ?_
  have hc := World.news_of_block (heap_alloc_new w (.cells #[.int .i64 1, .int .i64 0, .int .i64 0, .string ⟨#[]⟩, .string ⟨#[]⟩, .int .i64 0, .int .i64 0, .int .i64 0, .string ⟨#[]⟩, .string ⟨#[]⟩, .bool true] t)) k u hu
  simpa using hc

set_option maxRecDepth 100000 in
set_option maxHeartbeats 6400000 in
theorem normalsLaw (sl : Value) (L : List Sp) (w : World) (h : SpS w sl L) (hL : L.length ≤ 1048576) (hsz : ∀ s ∈ L, smallS s) :
    Calls Tryz.prog 3 #[sl] w fun e w' => e = .returned (.bool true) ∧ w.grownBy w' none := by
  obtain ⟨σ, hσ⟩ : ∃ σ, L.all soundS = σ := ⟨_, rfl⟩
  have hbl := outs_bnd_len (holdsL L) L hL
  obtain ⟨N, hN⟩ : ∃ N, outs (tog (holdsL L) false (bnd L)) = N := ⟨_, rfl⟩
  rw [hN] at hbl
  have AL : Hid (∀ w v, SpS w v L → Calls Tryz.prog 5 #[v] w fun e w' => ∃ o n c, e = .returned (.slice o n c) ∧ SpS w' (.slice o n c) L ∧ w'.ownsRow w.heap.size 31 11 (.slice o n c) L.length (L.flatMap spC) ∧ w.grownBy w' none) := fun w v h => cSpansO v L w h (by omega)
  have AN : Hid (∀ w v, SpS w v N → Calls Tryz.prog 5 #[v] w fun e w' => ∃ o n c, e = .returned (.slice o n c) ∧ SpS w' (.slice o n c) N ∧ w'.ownsRow w.heap.size 31 11 (.slice o n c) N.length (N.flatMap spC) ∧ w.grownBy w' none) := fun w v h => cSpansO v N w h hbl
  have BL : Hid (∀ w v, SpS w v L → Calls Tryz.prog 8 #[v] w fun e w' => e = .returned (.bool σ) ∧ w.grownBy w' none) := fun w v h => by rw [← hσ]; exact cSoundR v L w h (by omega) hsz
  have CL : Hid (∀ w a, SpS w a L → Calls Tryz.prog 6 #[a] w (XPost σ N w)) := fun w a h => by rw [← hσ, ← hN]; exact xNormal a L w h hL hsz
  have CO : Hid (∀ w a, SpS w a [oneSp] → Calls Tryz.prog 6 #[a] w fun e w' => (∃ o n c r, e = .returned (.tuple #[.slice o n c, .int .i64 r])) ∧ w.grownBy w' none) := fun w a h => by
    refine (normal_any a [oneSp] w h (by simp) (fun s hs => by simp at hs; subst hs; exact ⟨by decide, by decide, by decide, by decide⟩)).mono ?_
    intro e w' hp
    exact ⟨hp.two, hp.1⟩
  have RN : Hid (∀ w a, SpS w a L → Calls Tryz.prog 10 #[a] w fun e w' => ∃ vo, e = .returned vo ∧ SpS w' vo N ∧ w.grownBy w' none) := fun w a h => by rw [← hN]; exact rnormal_any a L w h hL hsz
  have CE : Hid (∀ N a b w, N.length ≤ 4194304 → SpS w a N → SpS w b N → Calls Tryz.prog 7 #[a, b] w fun e w' => e = .returned (.bool true) ∧ w.grownBy w' none) := fun N a b w hN h h' => by
    refine (cEqualG a b N N w h h' hN).mono ?_
    rintro e w' ⟨⟨r, rfl, hr⟩, hg⟩
    exact ⟨by rw [hr.2 rfl], hg⟩
  have HLL : Hid (L.length ≤ 4194304) := by show _ ≤ _; omega
  have HNL : Hid (N.length ≤ 4194304) := by show _ ≤ _; omega
  have CN : Hid (∀ E w, Calls Tryz.prog 9 #[.int .i64 E] w fun e w' => e = .returned (.int .i64 E) ∧ w.grownBy w' none) := fun E w => lnum_gb E w
  have HA : Hid (SpS w sl L) := h
  have HG : Hid (w.grownBy w none) := gb_refl w none
  clear h hL hsz hσ hN hbl
  go_enter Tryz.func3, Tryz.ntmps3
  go_wp2_with (first | (go_at_call 5; refine (AL.out _ _ HA.out).mono ?_))
  rintro e w1 ⟨o1, n1, c1, rfl, hm, _, hg⟩
  replace HG : Hid (w.grownBy w1 none) := gb_trans HG.out hg
  replace HA : Hid (SpS w1 sl L) := (HA.out).grow hg
  have HM : Hid (SpS w1 (.slice o1 n1 c1) L) := hm
  clear hg
  clear hm
  have HMB : Hid (∀ a n c, (Value.slice o1 n1 c1) = .slice (some a) n c → 0 < n → a.block < w1.heap.size) := fun a n c e hn => SpS.at (by rw [← e]; exact HM.out) hn
  have HG1 : Hid (w.grownBy w1 none) := HG.out
  go_wp2_with (first | (go_at_call 6; refine (CL.out _ _ HM.out).mono ?_))
  rintro e w2 ⟨hg, hn⟩
  replace HG : Hid (w.grownBy w2 none) := gb_trans HG.out hg
  replace HA : Hid (SpS w2 sl L) := (HA.out).grow hg
  replace HM : Hid (SpS w2 (.slice o1 n1 c1) L) := (HM.out).grow hg
  clear hg
  rcases hn with ⟨hst, rfl⟩ | ⟨hst, o2, n2, c2, rfl, hs2, hf2, ho2⟩
  · subst hst
    go_wp2_with (first | (go_at_call 6; refine (CO.out _ _ (oneSp_at _ _)).mono ?_))
    rintro e w3 ⟨⟨o3, n3, c3, r3, rfl⟩, hg⟩
    replace hg : w2.grownBy w3 none := gb_trans (gb_alloc (gb_refl w2 none) _) hg
    replace HG : Hid (w.grownBy w3 none) := gb_trans HG.out hg
    replace HA : Hid (SpS w3 sl L) := (HA.out).grow hg
    replace HM : Hid (SpS w3 (.slice o1 n1 c1) L) := (HM.out).grow hg
    clear hg
    go_wp2_with (first | (go_at_call 5; refine (AL.out _ _ HA.out).mono ?_))
    rintro e w4 ⟨o4, n4, c4, rfl, hm, _, hg⟩
    replace HG : Hid (w.grownBy w4 none) := gb_trans HG.out hg
    replace HA : Hid (SpS w4 sl L) := (HA.out).grow hg
    replace HM : Hid (SpS w4 (.slice o1 n1 c1) L) := (HM.out).grow hg
    have HM2 : Hid (SpS w4 (.slice o4 n4 c4) L) := hm
    clear hg
    clear hm
    go_wp2_with (first | (go_at_call 7; refine (CE.out L _ _ _ HLL.out HM.out HM2.out).mono ?_))
    rintro e w5 ⟨rfl, hg⟩
    replace HG : Hid (w.grownBy w5 none) := gb_trans HG.out hg
    replace HA : Hid (SpS w5 sl L) := (HA.out).grow hg
    replace HM : Hid (SpS w5 (.slice o1 n1 c1) L) := (HM.out).grow hg
    replace HM2 : Hid (SpS w5 (.slice o4 n4 c4) L) := (HM2.out).grow hg
    clear hg
    clear HM2
    go_wp2_with (first | (go_at_call 8; refine (BL.out _ _ HA.out).mono ?_))
    rintro e w6 ⟨rfl, hg⟩
    replace HG : Hid (w.grownBy w6 none) := gb_trans HG.out hg
    replace HA : Hid (SpS w6 sl L) := (HA.out).grow hg
    replace HM : Hid (SpS w6 (.slice o1 n1 c1) L) := (HM.out).grow hg
    clear hg
    go_wp2_with (first | (go_at_call 9; refine (CN.out _ _).mono ?_))
    rintro e w7 ⟨rfl, hg⟩
    replace HG : Hid (w.grownBy w7 none) := gb_trans HG.out hg
    replace HA : Hid (SpS w7 sl L) := (HA.out).grow hg
    replace HM : Hid (SpS w7 (.slice o1 n1 c1) L) := (HM.out).grow hg
    clear hg
    go_wp2
    go_ret
    exact ⟨rfl, HG.out⟩
  · subst hst
    have HN : Hid (SpS w2 (.slice o2 n2 c2) N) := hs2
    have HOW : Hid (World.ownsRow w2 w1.heap.size 31 11 (.slice o2 n2 c2) N.length (N.flatMap spC)) := ho2
    have HOWW : Hid (World.ownsRow w2 w1.heap.size 31 11 (.slice o2 n2 c2) N.length (N.flatMap spC)) := ho2
    clear hs2 ho2 hf2
    have HG2 : Hid (w2.grownBy w2 none) := gb_refl _ _
    go_wp2_with (first | (go_at_call 6; refine (CO.out _ _ (oneSp_at _ _)).mono ?_))
    rintro e w3 ⟨⟨o3, n3, c3, r3, rfl⟩, hg⟩
    replace hg : w2.grownBy w3 none := gb_trans (gb_alloc (gb_refl w2 none) _) hg
    replace HG : Hid (w.grownBy w3 none) := gb_trans HG.out hg
    replace HA : Hid (SpS w3 sl L) := (HA.out).grow hg
    replace HM : Hid (SpS w3 (.slice o1 n1 c1) L) := (HM.out).grow hg
    replace HN : Hid (SpS w3 (.slice o2 n2 c2) N) := (HN.out).grow hg
    replace HG2 : Hid (w2.grownBy w3 none) := gb_trans HG2.out hg
    clear hg
    go_wp2_with (first | (go_at_call 5; refine (AL.out _ _ HA.out).mono ?_))
    rintro e w4 ⟨o4, n4, c4, rfl, hm, _, hg⟩
    replace HG : Hid (w.grownBy w4 none) := gb_trans HG.out hg
    replace HA : Hid (SpS w4 sl L) := (HA.out).grow hg
    replace HM : Hid (SpS w4 (.slice o1 n1 c1) L) := (HM.out).grow hg
    replace HN : Hid (SpS w4 (.slice o2 n2 c2) N) := (HN.out).grow hg
    replace HG2 : Hid (w2.grownBy w4 none) := gb_trans HG2.out hg
    have HM2 : Hid (SpS w4 (.slice o4 n4 c4) L) := hm
    clear hg
    clear hm
    go_wp2_with (first | (go_at_call 7; refine (CE.out L _ _ _ HLL.out HM.out HM2.out).mono ?_))
    rintro e w5 ⟨rfl, hg⟩
    replace HG : Hid (w.grownBy w5 none) := gb_trans HG.out hg
    replace HA : Hid (SpS w5 sl L) := (HA.out).grow hg
    replace HM : Hid (SpS w5 (.slice o1 n1 c1) L) := (HM.out).grow hg
    replace HN : Hid (SpS w5 (.slice o2 n2 c2) N) := (HN.out).grow hg
    replace HG2 : Hid (w2.grownBy w5 none) := gb_trans HG2.out hg
    replace HM2 : Hid (SpS w5 (.slice o4 n4 c4) L) := (HM2.out).grow hg
    clear hg
    clear HM2
    go_wp2_with (first | (go_at_call 8; refine (BL.out _ _ HA.out).mono ?_))
    rintro e w6 ⟨rfl, hg⟩
    replace HG : Hid (w.grownBy w6 none) := gb_trans HG.out hg
    replace HA : Hid (SpS w6 sl L) := (HA.out).grow hg
    replace HM : Hid (SpS w6 (.slice o1 n1 c1) L) := (HM.out).grow hg
    replace HN : Hid (SpS w6 (.slice o2 n2 c2) N) := (HN.out).grow hg
    replace HG2 : Hid (w2.grownBy w6 none) := gb_trans HG2.out hg
    clear hg
    go_wp2_with (first | (go_at_call 10; refine (RN.out _ _ HA.out).mono ?_))
    rintro e w7 ⟨vn, rfl, hm, hg⟩
    replace HG : Hid (w.grownBy w7 none) := gb_trans HG.out hg
    replace HA : Hid (SpS w7 sl L) := (HA.out).grow hg
    replace HM : Hid (SpS w7 (.slice o1 n1 c1) L) := (HM.out).grow hg
    replace HN : Hid (SpS w7 (.slice o2 n2 c2) N) := (HN.out).grow hg
    replace HG2 : Hid (w2.grownBy w7 none) := gb_trans HG2.out hg
    have HV : Hid (SpS w7 vn N) := hm
    clear hg
    clear hm
    have HBW : Hid (w2.heap.size ≤ w7.heap.size) := HG2.out.size
    go_wp2_with (first | (go_at_call 5; refine (AN.out _ _ HV.out).mono ?_))
    rintro e w8 ⟨o8, n8, c8, rfl, hm, ho8, hg⟩
    replace HG : Hid (w.grownBy w8 none) := gb_trans HG.out hg
    replace HA : Hid (SpS w8 sl L) := (HA.out).grow hg
    replace HM : Hid (SpS w8 (.slice o1 n1 c1) L) := (HM.out).grow hg
    replace HN : Hid (SpS w8 (.slice o2 n2 c2) N) := (HN.out).grow hg
    replace HG2 : Hid (w2.grownBy w8 none) := gb_trans HG2.out hg
    replace HV : Hid (SpS w8 vn N) := (HV.out).grow hg
    have HW : Hid (SpS w8 (.slice o8 n8 c8) N) := hm
    clear hg
    clear hm
    clear HV
    have HWB : Hid (∀ a n c, (Value.slice o8 n8 c8) = .slice (some a) n c → 0 < n → w7.heap.size ≤ a.block) := fun a n c e hn => by
      rw [e] at ho8
      exact (ho8.lt a.block rfl).1
    clear ho8
    go_wp2_with (first | (go_at_call 7; refine (CE.out N _ _ _ HNL.out HN.out HW.out).mono ?_))
    rintro e w9 ⟨rfl, hg⟩
    replace HG : Hid (w.grownBy w9 none) := gb_trans HG.out hg
    replace HA : Hid (SpS w9 sl L) := (HA.out).grow hg
    replace HM : Hid (SpS w9 (.slice o1 n1 c1) L) := (HM.out).grow hg
    replace HN : Hid (SpS w9 (.slice o2 n2 c2) N) := (HN.out).grow hg
    replace HG2 : Hid (w2.grownBy w9 none) := gb_trans HG2.out hg
    replace HW : Hid (SpS w9 (.slice o8 n8 c8) N) := (HW.out).grow hg
    clear hg
    replace HOW : Hid (w9.ownsRow w1.heap.size 31 11 (.slice o2 n2 c2) N.length (N.flatMap spC)) := own_keep HOW.out HG2.out
    clear HG2
    have hform := HOW.out.2
    rcases hform with ⟨hnil, _⟩ | ⟨g, cap, cur, hsl, hbg, _⟩
    · cases hnil
      go_wp2
      go_loopw [10] (fun vi wr => vi = .int .i64 0 ∧ w9.grownBy wr none) (fun vi _ => 0)
      case atStart => exact ⟨rfl, gb_refl _ _⟩
      case round =>
        obtain ⟨rfl, hg⟩ := hrel
        replace HG : Hid (w.grownBy wr none) := gb_trans HG.out hg
        replace HM : Hid (SpS wr (.slice o1 n1 c1) L) := (HM.out).grow hg
        replace HW : Hid (SpS wr (.slice o8 n8 c8) N) := (HW.out).grow hg
        clear hg
        go_wp2_with (first | (go_at_call 6; refine (CL.out _ _ HM.out).mono ?_))
        rintro e wa ⟨hg, hn⟩
        replace HG : Hid (w.grownBy wa none) := gb_trans HG.out hg
        replace HW : Hid (SpS wa (.slice o8 n8 c8) N) := (HW.out).grow hg
        clear hg
        rcases hn with ⟨hst, _⟩ | ⟨_, oa, na, ca, rfl, hsa, _, _⟩
        · cases hst
        have HK : Hid (SpS wa (.slice oa na ca) N) := hsa
        clear hsa
        go_wp2_with (first | (go_at_call 7; refine (CE.out N _ _ _ HNL.out HK.out HW.out).mono ?_; rintro e wb ⟨rfl, hgb⟩) | (go_at_call 9; refine (CN.out _ _).mono ?_; rintro e wc ⟨rfl, hgc⟩))
        go_ret
        exact ⟨rfl, gb_trans HG.out (gb_trans hgb hgc)⟩
    · cases hsl
      have HBG : Hid (w1.heap.size ≤ g) := hbg
      have HGT : Hid (g < w2.heap.size) := (HOWW.out.lt g rfl).2
      clear hbg
      go_wp2
      go_loopw [10] (fun vi wr => ∃ (i : Nat) (xs : List Value), vi = .int .i64 i ∧ i ≤ N.length ∧ wr.ownsRow w1.heap.size 31 11 (.slice (some ⟨g, 0, none⟩) N.length c2) N.length xs ∧ w9.grownBy wr (some g)) (fun vi _ => N.length - (intOf vi).toNat)
      case atStart => exact ⟨0, _, rfl, Nat.zero_le _, HOW.out, gb_refl _ _⟩
      case round =>
        obtain ⟨i, xs, rfl, hi, how, hgw⟩ := hrel
        have HO : Hid (wr.ownsRow w1.heap.size 31 11 (.slice (some ⟨g, 0, none⟩) N.length c2) N.length xs) := how
        have HGW : Hid (w9.grownBy wr (some g)) := hgw
        clear how hgw
        by_cases hlt : i < N.length
        · have hx : ∀ k, k < 11 → ∃ u, wr.cell? ⟨g, i * 11 + k, none⟩ = some u := fun k hk => by
            have h1 := HO.out.1
            have h2 : i * 11 + k < xs.length := by rw [h1]; omega
            have h3 := HO.out.cells (g := g) rfl (i * 11 + k) xs[i * 11 + k] (List.getElem?_eq_getElem h2)
            rw [add_zero_off] at h3
            exact ⟨_, h3⟩
          obtain ⟨x0, hx0⟩ := hx 0 (by omega)
          obtain ⟨x1, hx1⟩ := hx 1 (by omega)
          obtain ⟨x2, hx2⟩ := hx 2 (by omega)
          obtain ⟨x3, hx3⟩ := hx 3 (by omega)
          obtain ⟨x4, hx4⟩ := hx 4 (by omega)
          obtain ⟨x5, hx5⟩ := hx 5 (by omega)
          obtain ⟨x6, hx6⟩ := hx 6 (by omega)
          obtain ⟨x7, hx7⟩ := hx 7 (by omega)
          obtain ⟨x8, hx8⟩ := hx 8 (by omega)
          obtain ⟨x9, hx9⟩ := hx 9 (by omega)
          obtain ⟨x10, hx10⟩ := hx 10 (by omega)
          rw [Nat.add_zero] at hx0
          have fz := own_unfrozen HO.out
          clear hx
          have hnl := HNL.out
          go_wp2
          clear hx0 hx1 hx2 hx3 hx4 hx5 hx6 hx7 hx8 hx9 hx10 fz
          have o9 := own_set (own_set (own_set (own_set (own_set (own_set (own_set (own_set (own_set (own_set (own_set (HO.out) (i * 11) (.int .i64 0) (by omega)) (i * 11 + 1) (.int .i64 0) (by omega)) (i * 11 + 2) (.int .i64 0) (by omega)) (i * 11 + 3) (.string ⟨#[]⟩) (by omega)) (i * 11 + 4) (.string ⟨#[]⟩) (by omega)) (i * 11 + 5) (.int .i64 0) (by omega)) (i * 11 + 6) (.int .i64 0) (by omega)) (i * 11 + 7) (.int .i64 0) (by omega)) (i * 11 + 8) (.string ⟨#[]⟩) (by omega)) (i * 11 + 9) (.string ⟨#[]⟩) (by omega)) (i * 11 + 10) (.bool true) (by omega)
          exact ⟨⟨i + 1, _, by go_num, by omega, o9, gb_set (gb_set (gb_set (gb_set (gb_set (gb_set (gb_set (gb_set (gb_set (gb_set (gb_set (HGW.out) _ _) _ _) _ _) _ _) _ _) _ _) _ _) _ _) _ _) _ _) _ _⟩, by simp [intOf]; omega⟩
        · have hgw := HGW.out
          have hie : i = N.length := by omega
          have HGF : Hid (w.grownBy wr none) := gb_row0 HG.out hgw (fun q hq => by injection hq with hq; have h1 := HBG.out; have h2 := HG1.out.size; omega)
          replace HM : Hid (SpS wr (.slice o1 n1 c1) L) := HM.out.far hgw (fun a n c e hn => by have h1 := HMB.out a n c e hn; have h2 := HBG.out; omega)
          replace HW : Hid (SpS wr (.slice o8 n8 c8) N) := HW.out.far hgw (fun a n c e hn => by have h1 := HWB.out a n c e hn; have h2 := HGT.out; have h3 := HBW.out; omega)
          replace HG : Hid (w.grownBy wr none) := HGF.out
          clear hgw hie hi HO HGW HGF
          go_wp2_with (first | (go_at_call 6; refine (CL.out _ _ HM.out).mono ?_))
          rintro e wa ⟨hg, hn⟩
          replace HG : Hid (w.grownBy wa none) := gb_trans HG.out hg
          replace HW : Hid (SpS wa (.slice o8 n8 c8) N) := (HW.out).grow hg
          clear hg
          rcases hn with ⟨hst, _⟩ | ⟨_, oa, na, ca, rfl, hsa, _, _⟩
          · cases hst
          have HK : Hid (SpS wa (.slice oa na ca) N) := hsa
          clear hsa
          go_wp2_with (first | (go_at_call 7; refine (CE.out N _ _ _ HNL.out HK.out HW.out).mono ?_; rintro e wb ⟨rfl, hgb⟩) | (go_at_call 9; refine (CN.out _ _).mono ?_; rintro e wc ⟨rfl, hgc⟩))
          go_ret
          exact ⟨rfl, gb_trans HG.out (gb_trans hgb hgc)⟩
end Go.Proofs.YtenomeopkncaaaaGreatDoor
