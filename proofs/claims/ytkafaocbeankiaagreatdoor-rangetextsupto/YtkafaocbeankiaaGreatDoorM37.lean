import Derived.Test.YtkafaocbeankiaaGreatDoorM31
import Derived.Test.YtkafaocbeankiaaGreatDoorM35
import Derived.Test.YtkafaocbeankiaaGreatDoorM36
import Derived.Deep.RegionHeld3
/-
  RangeText of the document, walked.
-/
namespace Go.Proofs.YtkafaocbeankiaaGreatDoor
open Go.RowKit
set_option linter.unusedVariables false

theorem add_step (X Y : List UInt8) (h : X.length + Y.length ≤ 9223372036854775807) : ∃ Z, Z = X ++ Y ∧ Z.length = X.length + Y.length ∧ ∀ wx, (Op.stringOp .add ⟨X.toArray⟩ ⟨Y.toArray⟩).run Tryz.prog wx = .ok (.string ⟨Z.toArray⟩) wx :=
  ⟨_, rfl, by simp, fun wx => add_lists X Y wx h⟩
set_option maxRecDepth 100000 in
set_option maxHeartbeats 12800000 in
theorem rangeText_any (sl : Value) (L : List Sp) (N : List Sp) (w : World) (h : SpS w sl L) (hN : outs (tog (holdsL L) false (bnd L)) = N) (hns : ∀ s ∈ N, NSp s) (hL : L.length ≤ 1048576) (hNl : N.length ≤ 1048576) (hsz : ∀ s ∈ L, smallS s) :
    Calls Tryz.prog 8 #[sl] w fun e w' => e = .returned (.string ⟨(rText N).toArray⟩) ∧ w.grownBy w' none := by
  have HA : Hid (SpS w sl L) := h
  have RN : Hid (∀ w a, SpS w a L → Calls Tryz.prog 16 #[a] w fun e w' => ∃ vo, e = .returned vo ∧ SpS w' vo N ∧ w.grownBy w' none) := fun w a h => by rw [← hN]; exact rnormal_any a L w h hL hsz
  have HNS : Hid (∀ s ∈ N, NSp s) := hns
  have HNL : Hid (N.length ≤ 1048576) := hNl
  have HRT : Hid (∀ i, (Lib.join ((N.take i).map tOf) sepT).length ≤ i * 2097226) := rt_len N hns
  have HST : Hid (∀ i (hi : i < N.length), Lib.join ((N.take (i + 1)).map tOf) sepT = if i = 0 then tOf N[i] else Lib.join ((N.take i).map tOf) sepT ++ (sepT ++ tOf N[i])) := fun i hi => rt_step N i hi
  have CC : Hid (∀ (s : Sp) w, NSp s → Calls Tryz.prog 17 #[.agg #[.int .i64 s.f1, .int .i64 s.f2, .int .i64 s.f3, .string s.f4, .string s.f5], .agg #[.int .i64 0, .int .i64 0, .int .i64 0, .string ⟨#[48]⟩, .string ⟨#[]⟩]] w fun e w' => e = .returned (.int .i64 (verC (cFrom s) leastV)) ∧ w.grownBy w' none) := fun s w hs => by
    refine (rcompare_any s.f1 s.f2 s.f3 0 0 0 s.f4 s.f5 ⟨#[48]⟩ ⟨#[]⟩ w (by have := hs.b4; omega) (by decide)).mono ?_
    rintro e w' ⟨rfl, h⟩
    exact ⟨rfl, below_gb' h⟩
  have CF : Hid (∀ (s : Sp) w, NSp s → Calls Tryz.prog 18 #[.agg #[.int .i64 s.f1, .int .i64 s.f2, .int .i64 s.f3, .string s.f4, .string s.f5]] w fun e w' => e = .returned (.string ⟨(fromT s).toArray⟩) ∧ w.grownBy w' none) := fun s w hs => by
    have b1 := hs.b1
    have b2 := hs.b2
    have b3 := hs.b3
    have b4 := hs.b4
    have b5 : s.f5.size < 2 ^ 60 := by rw [hs.b5]; decide
    exact rtext_any s.f1 s.f2 s.f3 s.f4 s.f5 w ⟨by omega, by omega⟩ ⟨by omega, by omega⟩ ⟨by omega, by omega⟩ (by omega) b5
  have CT : Hid (∀ (s : Sp) w, NSp s → Calls Tryz.prog 18 #[.agg #[.int .i64 s.t1, .int .i64 s.t2, .int .i64 s.t3, .string s.t4, .string s.t5]] w fun e w' => e = .returned (.string ⟨(toT s).toArray⟩) ∧ w.grownBy w' none) := fun s w hs => by
    have b1 := hs.c1
    have b2 := hs.c2
    have b3 := hs.c3
    have b4 := hs.c4
    have b5 : s.t5.size < 2 ^ 60 := by rw [hs.c5]; decide
    exact rtext_any s.t1 s.t2 s.t3 s.t4 s.t5 w ⟨by omega, by omega⟩ ⟨by omega, by omega⟩ ⟨by omega, by omega⟩ (by omega) b5
  have HE : Hid (N = [] → rText N = noneT) := fun e => by rw [e]; rfl
  have HF : Hid (N ≠ [] → rText N = Lib.join (N.map tOf) sepT) := fun e => if_neg e
  clear h hN hns hL hNl hsz
  go_enter Tryz.func8, Tryz.ntmps8
  go_wp2_with (first | (go_at_call 16; refine (RN.out _ _ HA.out).mono ?_))
  rintro e w1 ⟨vn, rfl, hn, hg⟩
  have HG1 : Hid (w.grownBy w1 none) := hg
  clear hg HA
  rcases hn with ⟨rfl, hn0⟩ | ⟨a, cap, rfl, hcap, hat⟩
  · have HR : Hid (rText N = noneT) := HE.out hn0
    clear hn0
    go_wp2
    go_loopw [5, 6] (fun vo vi wk => vi = .int .i64 0 ∧ vo = .string ⟨#[]⟩ ∧ w1.grownBy wk none) (fun _ vi _ => 0)
    case atStart => exact ⟨rfl, rfl, gb_alloc (gb_refl w1 none) _⟩
    case round =>
      obtain ⟨rfl, rfl, hg⟩ := hrel
      have HG : Hid (w.grownBy wr none) := gb_trans HG1.out hg
      clear hg
      go_wp2
      go_ret
      exact ⟨by rw [HR.out]; rfl, HG.out⟩
  · have HAT : Hid (SpAt w1 a N) := hat
    clear hat
    go_wp2
    obtain ⟨B, hB⟩ : ∃ B, w1.heap.size = B := ⟨_, rfl⟩
    obtain ⟨W1, hW1⟩ : ∃ W, w1.alloc (.cells #[.int .i64 0, .int .i64 0, .int .i64 0, .string ⟨#[48]⟩, .string ⟨#[]⟩] 43) = W := ⟨_, rfl⟩
    have HST1 : Hid (St B 0 0 0 ⟨#[48]⟩ ⟨#[]⟩ W1) := by
      show St B 0 0 0 ⟨#[48]⟩ ⟨#[]⟩ W1
      rw [← hW1, ← hB]; exact st_row (t := 43) (heap_alloc_new w1 _)
    have HGW : Hid (w1.grownBy W1 none) := by show w1.grownBy W1 none; rw [← hW1]; exact gb_alloc (gb_refl w1 none) _
    try rw [hW1]
    try rw [hB]
    clear hW1 hB
    go_loopw [5, 6] (fun vo vi wk => ∃ i : Nat, vi = .int .i64 i ∧ i ≤ N.length ∧ vo = .string ⟨(Lib.join ((N.take i).map tOf) sepT).toArray⟩ ∧ W1.grownBy wk none) (fun _ vi _ => N.length - (intOf vi).toNat)
    case atStart => exact ⟨0, rfl, Nat.zero_le _, rfl, gb_refl _ _⟩
    case round =>
      obtain ⟨i, rfl, hi, rfl, hg⟩ := hrel
      have HG : Hid (W1.grownBy wr none) := hg
      clear hg
      by_cases hlt : i < N.length
      · obtain ⟨s, hs⟩ : ∃ s, N[i] = s := ⟨_, rfl⟩
        have hNS : NSp s := by rw [← hs]; exact HNS.out _ (List.getElem_mem hlt)
        have HEL : Hid (EltAt wr (a.add (i * 11)) s) := by show EltAt wr _ s; rw [← hs]; exact ((HAT.out i hlt).grow HGW.out).grow HG.out
        have HSB : Hid (St B 0 0 0 ⟨#[48]⟩ ⟨#[]⟩ wr) := HST1.out.grow HG.out
        have hnx := HST.out i hlt
        rw [hs] at hnx
        clear hs
        have hjl := HRT.out i
        have hnl := HNL.out
        obtain ⟨O, hO⟩ : ∃ O, Lib.join ((N.take i).map tOf) sepT = O := ⟨_, rfl⟩
        obtain ⟨O', hO'⟩ : ∃ O, Lib.join ((N.take (i + 1)).map tOf) sepT = O := ⟨_, rfl⟩
        have HO' : Hid (Lib.join ((N.take (i + 1)).map tOf) sepT = O') := hO'
        rw [hO] at hnx hjl ⊢
        rw [hO'] at hnx
        have hO2 : i = 0 → O = [] := fun e => by rw [← hO, e]; rfl
        clear hO hO'
        have CCs : Hid (∀ w, Calls Tryz.prog 17 #[.agg #[.int .i64 s.f1, .int .i64 s.f2, .int .i64 s.f3, .string s.f4, .string s.f5], .agg #[.int .i64 0, .int .i64 0, .int .i64 0, .string ⟨#[48]⟩, .string ⟨#[]⟩]] w fun e w' => e = .returned (.int .i64 (verC (cFrom s) leastV)) ∧ w.grownBy w' none) := fun w => CC.out s w hNS
        have CFs : Hid (∀ w, Calls Tryz.prog 18 #[.agg #[.int .i64 s.f1, .int .i64 s.f2, .int .i64 s.f3, .string s.f4, .string s.f5]] w fun e w' => e = .returned (.string ⟨(fromT s).toArray⟩) ∧ w.grownBy w' none) := fun w => CF.out s w hNS
        have CTs : Hid (∀ w, Calls Tryz.prog 18 #[.agg #[.int .i64 s.t1, .int .i64 s.t2, .int .i64 s.t3, .string s.t4, .string s.t5]] w fun e w' => e = .returned (.string ⟨(toT s).toArray⟩) ∧ w.grownBy w' none) := fun w => CT.out s w hNS
        have hlf := hNS.lf
        have hlt' := hNS.lt
        have HTO : Hid (tOf s = if decide (0 < verC (cFrom s) leastV) = true then (if s.o = true then [62, 61] ++ fromT s else ([62, 61] ++ fromT s) ++ ([32] ++ ([60] ++ toT s))) else if s.o = true then [42] else [60] ++ toT s) := rfl
        obtain ⟨x, hx⟩ : ∃ x, verC (cFrom s) leastV = x := ⟨_, rfl⟩
        rw [hx] at CCs HTO
        obtain ⟨F, hF⟩ : ∃ F, fromT s = F := ⟨_, rfl⟩
        rw [hF] at CFs HTO hlf
        obtain ⟨T, hT⟩ : ∃ T, toT s = T := ⟨_, rfl⟩
        rw [hT] at CTs HTO hlt'
        obtain ⟨ob, hob⟩ : ∃ b, s.o = b := ⟨_, rfl⟩
        have HOB : Hid (s.o = ob) := hob
        rw [hob] at HTO
        clear hx hF hT hNS hob
        have hsep : sepT = [32, 124, 124, 32] := rfl
        rw [hsep] at hnx
        clear hsep
        by_cases h0 : i = 0
        · rw [if_pos h0] at hnx
          have hO3 : O = [] := hO2 h0
          have hz1 : ¬ (0 < (i : Int)) := by omega
          have hz2 : decide (0 < (i : Int)) = false := by simp; omega
          clear h0
          clear hO2
          cases hxp : decide (0 < x) with
          | false =>
            cases ob with
            | false =>
              obtain ⟨Z1, hZ1, lZ1, aZ1⟩ := add_step O [60] (by simp only [List.length_cons, List.length_nil] at *; omega)
              simp only [List.length_cons, List.length_nil] at lZ1
              obtain ⟨Z2, hZ2, lZ2, aZ2⟩ := add_step Z1 T (by omega)
              have HN : Hid (O' = Z2) := by
                show O' = Z2
                rw [hnx, HTO.out, hZ2, hZ1]
                simp [hxp, hO3]
              clear hO3
              clear hZ1 hZ2 lZ1 lZ2 hnx HTO
              obtain ⟨e0, e1, e2, e3, e4, e5, e6, e7, e8, e9, e10⟩ := HEL.out
              rw [HOB.out] at e10
              have HSW : Hid (St B 0 0 0 ⟨#[48]⟩ ⟨#[]⟩ (wr.alloc (.cells #[.int .i64 s.f1, .int .i64 s.f2, .int .i64 s.f3, .string s.f4, .string s.f5, .int .i64 s.t1, .int .i64 s.t2, .int .i64 s.t3, .string s.t4, .string s.t5, .bool false] 45))) := HSB.out.grow (gb_alloc (gb_refl wr none) _)
              have HAW : Hid (EltAt (wr.alloc (.cells #[.int .i64 s.f1, .int .i64 s.f2, .int .i64 s.f3, .string s.f4, .string s.f5, .int .i64 s.t1, .int .i64 s.t2, .int .i64 s.t3, .string s.t4, .string s.t5, .bool false] 45)) ⟨wr.heap.size, 0, none⟩ s) := by
                show EltAt _ _ s
                rw [← HOB.out]; exact elt_row (heap_alloc_new wr _)
              obtain ⟨s0, s1, s2, s3, s4⟩ := HSW.out
              go_wp2_with (first | (go_at_call 17; refine (CCs.out _).mono ?_; rintro e w2 ⟨rfl, hg2⟩; have HE2 : Hid (EltAt w2 ⟨wr.heap.size, 0, none⟩ s) := HAW.out.grow hg2; obtain ⟨d0, d1, d2, d3, d4, d5, d6, d7, d8, d9, d10⟩ := HE2.out; simp only [Nat.zero_add] at d1 d2 d3 d4 d5 d6 d7 d8 d9 d10; rw [HOB.out] at d10) | (go_at_call_of 18 (Value.string s.t4); refine (CTs.out _).mono ?_; rintro e w4 ⟨rfl, hg4⟩))
              go_roundw
              case rel => exact ⟨i + 1, by go_num, by omega, by rw [HO'.out, HN.out], gb_trans HG.out (gb_trans (gb_trans (gb_alloc (gb_refl wr none) _) hg2) hg4)⟩
              case measure => simp [intOf]; omega
            | true =>
              obtain ⟨Z1, hZ1, lZ1, aZ1⟩ := add_step O [42] (by simp only [List.length_cons, List.length_nil] at *; omega)
              simp only [List.length_cons, List.length_nil] at lZ1
              have HN : Hid (O' = Z1) := by
                show O' = Z1
                rw [hnx, HTO.out, hZ1]
                simp [hxp, hO3]
              clear hO3
              clear hZ1 lZ1 hnx HTO
              obtain ⟨e0, e1, e2, e3, e4, e5, e6, e7, e8, e9, e10⟩ := HEL.out
              rw [HOB.out] at e10
              have HSW : Hid (St B 0 0 0 ⟨#[48]⟩ ⟨#[]⟩ (wr.alloc (.cells #[.int .i64 s.f1, .int .i64 s.f2, .int .i64 s.f3, .string s.f4, .string s.f5, .int .i64 s.t1, .int .i64 s.t2, .int .i64 s.t3, .string s.t4, .string s.t5, .bool true] 45))) := HSB.out.grow (gb_alloc (gb_refl wr none) _)
              have HAW : Hid (EltAt (wr.alloc (.cells #[.int .i64 s.f1, .int .i64 s.f2, .int .i64 s.f3, .string s.f4, .string s.f5, .int .i64 s.t1, .int .i64 s.t2, .int .i64 s.t3, .string s.t4, .string s.t5, .bool true] 45)) ⟨wr.heap.size, 0, none⟩ s) := by
                show EltAt _ _ s
                rw [← HOB.out]; exact elt_row (heap_alloc_new wr _)
              obtain ⟨s0, s1, s2, s3, s4⟩ := HSW.out
              go_wp2_with (first | (go_at_call 17; refine (CCs.out _).mono ?_; rintro e w2 ⟨rfl, hg2⟩; have HE2 : Hid (EltAt w2 ⟨wr.heap.size, 0, none⟩ s) := HAW.out.grow hg2; obtain ⟨d0, d1, d2, d3, d4, d5, d6, d7, d8, d9, d10⟩ := HE2.out; simp only [Nat.zero_add] at d1 d2 d3 d4 d5 d6 d7 d8 d9 d10; rw [HOB.out] at d10))
              go_roundw
              case rel => exact ⟨i + 1, by go_num, by omega, by rw [HO'.out, HN.out], gb_trans HG.out (gb_trans (gb_alloc (gb_refl wr none) _) hg2)⟩
              case measure => simp [intOf]; omega
          | true =>
            cases ob with
            | false =>
              obtain ⟨Z1, hZ1, lZ1, aZ1⟩ := add_step O [62, 61] (by simp only [List.length_cons, List.length_nil] at *; omega)
              simp only [List.length_cons, List.length_nil] at lZ1
              obtain ⟨Z2, hZ2, lZ2, aZ2⟩ := add_step Z1 F (by omega)
              obtain ⟨Z3, hZ3, lZ3, aZ3⟩ := add_step Z2 [32] (by simp only [List.length_cons, List.length_nil] at *; omega)
              simp only [List.length_cons, List.length_nil] at lZ3
              obtain ⟨Z4, hZ4, lZ4, aZ4⟩ := add_step Z3 [60] (by simp only [List.length_cons, List.length_nil] at *; omega)
              simp only [List.length_cons, List.length_nil] at lZ4
              obtain ⟨Z5, hZ5, lZ5, aZ5⟩ := add_step Z4 T (by omega)
              have HN : Hid (O' = Z5) := by
                show O' = Z5
                rw [hnx, HTO.out, hZ5, hZ4, hZ3, hZ2, hZ1]
                simp [hxp, hO3]
              clear hO3
              clear hZ1 hZ2 hZ3 hZ4 hZ5 lZ1 lZ2 lZ3 lZ4 lZ5 hnx HTO
              obtain ⟨e0, e1, e2, e3, e4, e5, e6, e7, e8, e9, e10⟩ := HEL.out
              rw [HOB.out] at e10
              have HSW : Hid (St B 0 0 0 ⟨#[48]⟩ ⟨#[]⟩ (wr.alloc (.cells #[.int .i64 s.f1, .int .i64 s.f2, .int .i64 s.f3, .string s.f4, .string s.f5, .int .i64 s.t1, .int .i64 s.t2, .int .i64 s.t3, .string s.t4, .string s.t5, .bool false] 45))) := HSB.out.grow (gb_alloc (gb_refl wr none) _)
              have HAW : Hid (EltAt (wr.alloc (.cells #[.int .i64 s.f1, .int .i64 s.f2, .int .i64 s.f3, .string s.f4, .string s.f5, .int .i64 s.t1, .int .i64 s.t2, .int .i64 s.t3, .string s.t4, .string s.t5, .bool false] 45)) ⟨wr.heap.size, 0, none⟩ s) := by
                show EltAt _ _ s
                rw [← HOB.out]; exact elt_row (heap_alloc_new wr _)
              obtain ⟨s0, s1, s2, s3, s4⟩ := HSW.out
              go_wp2_with (first | (go_at_call 17; refine (CCs.out _).mono ?_; rintro e w2 ⟨rfl, hg2⟩; have HE2 : Hid (EltAt w2 ⟨wr.heap.size, 0, none⟩ s) := HAW.out.grow hg2; obtain ⟨d0, d1, d2, d3, d4, d5, d6, d7, d8, d9, d10⟩ := HE2.out; simp only [Nat.zero_add] at d1 d2 d3 d4 d5 d6 d7 d8 d9 d10; rw [HOB.out] at d10) | (go_at_call_of 18 (Value.string s.f4); refine (CFs.out _).mono ?_; rintro e w3 ⟨rfl, hg3⟩; have HE3 : Hid (EltAt w3 ⟨wr.heap.size, 0, none⟩ s) := HE2.out.grow hg3; obtain ⟨c0, c1, c2, c3, c4, c5, c6, c7, c8, c9, c10⟩ := HE3.out; simp only [Nat.zero_add] at c1 c2 c3 c4 c5 c6 c7 c8 c9 c10; rw [HOB.out] at c10) | (go_at_call_of 18 (Value.string s.t4); refine (CTs.out _).mono ?_; rintro e w4 ⟨rfl, hg4⟩))
              go_roundw
              case rel => exact ⟨i + 1, by go_num, by omega, by rw [HO'.out, HN.out], gb_trans HG.out (gb_trans (gb_trans (gb_trans (gb_alloc (gb_refl wr none) _) hg2) hg3) hg4)⟩
              case measure => simp [intOf]; omega
            | true =>
              obtain ⟨Z1, hZ1, lZ1, aZ1⟩ := add_step O [62, 61] (by simp only [List.length_cons, List.length_nil] at *; omega)
              simp only [List.length_cons, List.length_nil] at lZ1
              obtain ⟨Z2, hZ2, lZ2, aZ2⟩ := add_step Z1 F (by omega)
              have HN : Hid (O' = Z2) := by
                show O' = Z2
                rw [hnx, HTO.out, hZ2, hZ1]
                simp [hxp, hO3]
              clear hO3
              clear hZ1 hZ2 lZ1 lZ2 hnx HTO
              obtain ⟨e0, e1, e2, e3, e4, e5, e6, e7, e8, e9, e10⟩ := HEL.out
              rw [HOB.out] at e10
              have HSW : Hid (St B 0 0 0 ⟨#[48]⟩ ⟨#[]⟩ (wr.alloc (.cells #[.int .i64 s.f1, .int .i64 s.f2, .int .i64 s.f3, .string s.f4, .string s.f5, .int .i64 s.t1, .int .i64 s.t2, .int .i64 s.t3, .string s.t4, .string s.t5, .bool true] 45))) := HSB.out.grow (gb_alloc (gb_refl wr none) _)
              have HAW : Hid (EltAt (wr.alloc (.cells #[.int .i64 s.f1, .int .i64 s.f2, .int .i64 s.f3, .string s.f4, .string s.f5, .int .i64 s.t1, .int .i64 s.t2, .int .i64 s.t3, .string s.t4, .string s.t5, .bool true] 45)) ⟨wr.heap.size, 0, none⟩ s) := by
                show EltAt _ _ s
                rw [← HOB.out]; exact elt_row (heap_alloc_new wr _)
              obtain ⟨s0, s1, s2, s3, s4⟩ := HSW.out
              go_wp2_with (first | (go_at_call 17; refine (CCs.out _).mono ?_; rintro e w2 ⟨rfl, hg2⟩; have HE2 : Hid (EltAt w2 ⟨wr.heap.size, 0, none⟩ s) := HAW.out.grow hg2; obtain ⟨d0, d1, d2, d3, d4, d5, d6, d7, d8, d9, d10⟩ := HE2.out; simp only [Nat.zero_add] at d1 d2 d3 d4 d5 d6 d7 d8 d9 d10; rw [HOB.out] at d10) | (go_at_call_of 18 (Value.string s.f4); refine (CFs.out _).mono ?_; rintro e w3 ⟨rfl, hg3⟩; have HE3 : Hid (EltAt w3 ⟨wr.heap.size, 0, none⟩ s) := HE2.out.grow hg3; obtain ⟨c0, c1, c2, c3, c4, c5, c6, c7, c8, c9, c10⟩ := HE3.out; simp only [Nat.zero_add] at c1 c2 c3 c4 c5 c6 c7 c8 c9 c10; rw [HOB.out] at c10))
              go_roundw
              case rel => exact ⟨i + 1, by go_num, by omega, by rw [HO'.out, HN.out], gb_trans HG.out (gb_trans (gb_trans (gb_alloc (gb_refl wr none) _) hg2) hg3)⟩
              case measure => simp [intOf]; omega
        · rw [if_neg h0] at hnx
          have hz1 : 0 < (i : Int) := by omega
          have hz2 : decide (0 < (i : Int)) = true := by simp; omega
          clear hO2
          cases hxp : decide (0 < x) with
          | false =>
            cases ob with
            | false =>
              obtain ⟨Z1, hZ1, lZ1, aZ1⟩ := add_step O [32, 124, 124, 32] (by simp only [List.length_cons, List.length_nil] at *; omega)
              simp only [List.length_cons, List.length_nil] at lZ1
              obtain ⟨Z2, hZ2, lZ2, aZ2⟩ := add_step Z1 [60] (by simp only [List.length_cons, List.length_nil] at *; omega)
              simp only [List.length_cons, List.length_nil] at lZ2
              obtain ⟨Z3, hZ3, lZ3, aZ3⟩ := add_step Z2 T (by omega)
              have HN : Hid (O' = Z3) := by
                show O' = Z3
                rw [hnx, HTO.out, hZ3, hZ2, hZ1]
                simp [hxp]
              clear hZ1 hZ2 hZ3 lZ1 lZ2 lZ3 hnx HTO
              obtain ⟨e0, e1, e2, e3, e4, e5, e6, e7, e8, e9, e10⟩ := HEL.out
              rw [HOB.out] at e10
              have HSW : Hid (St B 0 0 0 ⟨#[48]⟩ ⟨#[]⟩ (wr.alloc (.cells #[.int .i64 s.f1, .int .i64 s.f2, .int .i64 s.f3, .string s.f4, .string s.f5, .int .i64 s.t1, .int .i64 s.t2, .int .i64 s.t3, .string s.t4, .string s.t5, .bool false] 45))) := HSB.out.grow (gb_alloc (gb_refl wr none) _)
              have HAW : Hid (EltAt (wr.alloc (.cells #[.int .i64 s.f1, .int .i64 s.f2, .int .i64 s.f3, .string s.f4, .string s.f5, .int .i64 s.t1, .int .i64 s.t2, .int .i64 s.t3, .string s.t4, .string s.t5, .bool false] 45)) ⟨wr.heap.size, 0, none⟩ s) := by
                show EltAt _ _ s
                rw [← HOB.out]; exact elt_row (heap_alloc_new wr _)
              obtain ⟨s0, s1, s2, s3, s4⟩ := HSW.out
              go_wp2_with (first | (go_at_call 17; refine (CCs.out _).mono ?_; rintro e w2 ⟨rfl, hg2⟩; have HE2 : Hid (EltAt w2 ⟨wr.heap.size, 0, none⟩ s) := HAW.out.grow hg2; obtain ⟨d0, d1, d2, d3, d4, d5, d6, d7, d8, d9, d10⟩ := HE2.out; simp only [Nat.zero_add] at d1 d2 d3 d4 d5 d6 d7 d8 d9 d10; rw [HOB.out] at d10) | (go_at_call_of 18 (Value.string s.t4); refine (CTs.out _).mono ?_; rintro e w4 ⟨rfl, hg4⟩))
              go_roundw
              case rel => exact ⟨i + 1, by go_num, by omega, by rw [HO'.out, HN.out], gb_trans HG.out (gb_trans (gb_trans (gb_alloc (gb_refl wr none) _) hg2) hg4)⟩
              case measure => simp [intOf]; omega
            | true =>
              obtain ⟨Z1, hZ1, lZ1, aZ1⟩ := add_step O [32, 124, 124, 32] (by simp only [List.length_cons, List.length_nil] at *; omega)
              simp only [List.length_cons, List.length_nil] at lZ1
              obtain ⟨Z2, hZ2, lZ2, aZ2⟩ := add_step Z1 [42] (by simp only [List.length_cons, List.length_nil] at *; omega)
              simp only [List.length_cons, List.length_nil] at lZ2
              have HN : Hid (O' = Z2) := by
                show O' = Z2
                rw [hnx, HTO.out, hZ2, hZ1]
                simp [hxp]
              clear hZ1 hZ2 lZ1 lZ2 hnx HTO
              obtain ⟨e0, e1, e2, e3, e4, e5, e6, e7, e8, e9, e10⟩ := HEL.out
              rw [HOB.out] at e10
              have HSW : Hid (St B 0 0 0 ⟨#[48]⟩ ⟨#[]⟩ (wr.alloc (.cells #[.int .i64 s.f1, .int .i64 s.f2, .int .i64 s.f3, .string s.f4, .string s.f5, .int .i64 s.t1, .int .i64 s.t2, .int .i64 s.t3, .string s.t4, .string s.t5, .bool true] 45))) := HSB.out.grow (gb_alloc (gb_refl wr none) _)
              have HAW : Hid (EltAt (wr.alloc (.cells #[.int .i64 s.f1, .int .i64 s.f2, .int .i64 s.f3, .string s.f4, .string s.f5, .int .i64 s.t1, .int .i64 s.t2, .int .i64 s.t3, .string s.t4, .string s.t5, .bool true] 45)) ⟨wr.heap.size, 0, none⟩ s) := by
                show EltAt _ _ s
                rw [← HOB.out]; exact elt_row (heap_alloc_new wr _)
              obtain ⟨s0, s1, s2, s3, s4⟩ := HSW.out
              go_wp2_with (first | (go_at_call 17; refine (CCs.out _).mono ?_; rintro e w2 ⟨rfl, hg2⟩; have HE2 : Hid (EltAt w2 ⟨wr.heap.size, 0, none⟩ s) := HAW.out.grow hg2; obtain ⟨d0, d1, d2, d3, d4, d5, d6, d7, d8, d9, d10⟩ := HE2.out; simp only [Nat.zero_add] at d1 d2 d3 d4 d5 d6 d7 d8 d9 d10; rw [HOB.out] at d10))
              go_roundw
              case rel => exact ⟨i + 1, by go_num, by omega, by rw [HO'.out, HN.out], gb_trans HG.out (gb_trans (gb_alloc (gb_refl wr none) _) hg2)⟩
              case measure => simp [intOf]; omega
          | true =>
            cases ob with
            | false =>
              obtain ⟨Z1, hZ1, lZ1, aZ1⟩ := add_step O [32, 124, 124, 32] (by simp only [List.length_cons, List.length_nil] at *; omega)
              simp only [List.length_cons, List.length_nil] at lZ1
              obtain ⟨Z2, hZ2, lZ2, aZ2⟩ := add_step Z1 [62, 61] (by simp only [List.length_cons, List.length_nil] at *; omega)
              simp only [List.length_cons, List.length_nil] at lZ2
              obtain ⟨Z3, hZ3, lZ3, aZ3⟩ := add_step Z2 F (by omega)
              obtain ⟨Z4, hZ4, lZ4, aZ4⟩ := add_step Z3 [32] (by simp only [List.length_cons, List.length_nil] at *; omega)
              simp only [List.length_cons, List.length_nil] at lZ4
              obtain ⟨Z5, hZ5, lZ5, aZ5⟩ := add_step Z4 [60] (by simp only [List.length_cons, List.length_nil] at *; omega)
              simp only [List.length_cons, List.length_nil] at lZ5
              obtain ⟨Z6, hZ6, lZ6, aZ6⟩ := add_step Z5 T (by omega)
              have HN : Hid (O' = Z6) := by
                show O' = Z6
                rw [hnx, HTO.out, hZ6, hZ5, hZ4, hZ3, hZ2, hZ1]
                simp [hxp]
              clear hZ1 hZ2 hZ3 hZ4 hZ5 hZ6 lZ1 lZ2 lZ3 lZ4 lZ5 lZ6 hnx HTO
              obtain ⟨e0, e1, e2, e3, e4, e5, e6, e7, e8, e9, e10⟩ := HEL.out
              rw [HOB.out] at e10
              have HSW : Hid (St B 0 0 0 ⟨#[48]⟩ ⟨#[]⟩ (wr.alloc (.cells #[.int .i64 s.f1, .int .i64 s.f2, .int .i64 s.f3, .string s.f4, .string s.f5, .int .i64 s.t1, .int .i64 s.t2, .int .i64 s.t3, .string s.t4, .string s.t5, .bool false] 45))) := HSB.out.grow (gb_alloc (gb_refl wr none) _)
              have HAW : Hid (EltAt (wr.alloc (.cells #[.int .i64 s.f1, .int .i64 s.f2, .int .i64 s.f3, .string s.f4, .string s.f5, .int .i64 s.t1, .int .i64 s.t2, .int .i64 s.t3, .string s.t4, .string s.t5, .bool false] 45)) ⟨wr.heap.size, 0, none⟩ s) := by
                show EltAt _ _ s
                rw [← HOB.out]; exact elt_row (heap_alloc_new wr _)
              obtain ⟨s0, s1, s2, s3, s4⟩ := HSW.out
              go_wp2_with (first | (go_at_call 17; refine (CCs.out _).mono ?_; rintro e w2 ⟨rfl, hg2⟩; have HE2 : Hid (EltAt w2 ⟨wr.heap.size, 0, none⟩ s) := HAW.out.grow hg2; obtain ⟨d0, d1, d2, d3, d4, d5, d6, d7, d8, d9, d10⟩ := HE2.out; simp only [Nat.zero_add] at d1 d2 d3 d4 d5 d6 d7 d8 d9 d10; rw [HOB.out] at d10) | (go_at_call_of 18 (Value.string s.f4); refine (CFs.out _).mono ?_; rintro e w3 ⟨rfl, hg3⟩; have HE3 : Hid (EltAt w3 ⟨wr.heap.size, 0, none⟩ s) := HE2.out.grow hg3; obtain ⟨c0, c1, c2, c3, c4, c5, c6, c7, c8, c9, c10⟩ := HE3.out; simp only [Nat.zero_add] at c1 c2 c3 c4 c5 c6 c7 c8 c9 c10; rw [HOB.out] at c10) | (go_at_call_of 18 (Value.string s.t4); refine (CTs.out _).mono ?_; rintro e w4 ⟨rfl, hg4⟩))
              go_roundw
              case rel => exact ⟨i + 1, by go_num, by omega, by rw [HO'.out, HN.out], gb_trans HG.out (gb_trans (gb_trans (gb_trans (gb_alloc (gb_refl wr none) _) hg2) hg3) hg4)⟩
              case measure => simp [intOf]; omega
            | true =>
              obtain ⟨Z1, hZ1, lZ1, aZ1⟩ := add_step O [32, 124, 124, 32] (by simp only [List.length_cons, List.length_nil] at *; omega)
              simp only [List.length_cons, List.length_nil] at lZ1
              obtain ⟨Z2, hZ2, lZ2, aZ2⟩ := add_step Z1 [62, 61] (by simp only [List.length_cons, List.length_nil] at *; omega)
              simp only [List.length_cons, List.length_nil] at lZ2
              obtain ⟨Z3, hZ3, lZ3, aZ3⟩ := add_step Z2 F (by omega)
              have HN : Hid (O' = Z3) := by
                show O' = Z3
                rw [hnx, HTO.out, hZ3, hZ2, hZ1]
                simp [hxp]
              clear hZ1 hZ2 hZ3 lZ1 lZ2 lZ3 hnx HTO
              obtain ⟨e0, e1, e2, e3, e4, e5, e6, e7, e8, e9, e10⟩ := HEL.out
              rw [HOB.out] at e10
              have HSW : Hid (St B 0 0 0 ⟨#[48]⟩ ⟨#[]⟩ (wr.alloc (.cells #[.int .i64 s.f1, .int .i64 s.f2, .int .i64 s.f3, .string s.f4, .string s.f5, .int .i64 s.t1, .int .i64 s.t2, .int .i64 s.t3, .string s.t4, .string s.t5, .bool true] 45))) := HSB.out.grow (gb_alloc (gb_refl wr none) _)
              have HAW : Hid (EltAt (wr.alloc (.cells #[.int .i64 s.f1, .int .i64 s.f2, .int .i64 s.f3, .string s.f4, .string s.f5, .int .i64 s.t1, .int .i64 s.t2, .int .i64 s.t3, .string s.t4, .string s.t5, .bool true] 45)) ⟨wr.heap.size, 0, none⟩ s) := by
                show EltAt _ _ s
                rw [← HOB.out]; exact elt_row (heap_alloc_new wr _)
              obtain ⟨s0, s1, s2, s3, s4⟩ := HSW.out
              go_wp2_with (first | (go_at_call 17; refine (CCs.out _).mono ?_; rintro e w2 ⟨rfl, hg2⟩; have HE2 : Hid (EltAt w2 ⟨wr.heap.size, 0, none⟩ s) := HAW.out.grow hg2; obtain ⟨d0, d1, d2, d3, d4, d5, d6, d7, d8, d9, d10⟩ := HE2.out; simp only [Nat.zero_add] at d1 d2 d3 d4 d5 d6 d7 d8 d9 d10; rw [HOB.out] at d10) | (go_at_call_of 18 (Value.string s.f4); refine (CFs.out _).mono ?_; rintro e w3 ⟨rfl, hg3⟩; have HE3 : Hid (EltAt w3 ⟨wr.heap.size, 0, none⟩ s) := HE2.out.grow hg3; obtain ⟨c0, c1, c2, c3, c4, c5, c6, c7, c8, c9, c10⟩ := HE3.out; simp only [Nat.zero_add] at c1 c2 c3 c4 c5 c6 c7 c8 c9 c10; rw [HOB.out] at c10))
              go_roundw
              case rel => exact ⟨i + 1, by go_num, by omega, by rw [HO'.out, HN.out], gb_trans HG.out (gb_trans (gb_trans (gb_alloc (gb_refl wr none) _) hg2) hg3)⟩
              case measure => simp [intOf]; omega
      · have hil : i = N.length := by omega
        by_cases hz : N.length = 0
        · have HR : Hid (rText N = noneT) := HE.out (List.length_eq_zero_iff.1 hz)
          have HGF : Hid (w.grownBy wr none) := gb_trans HG1.out (gb_trans HGW.out HG.out)
          have hi0 : i = 0 := by omega
          subst hi0
          clear hil hi hlt
          go_wp2
          go_ret
          exact ⟨by rw [HR.out]; rfl, HGF.out⟩
        · have HR : Hid (rText N = Lib.join ((N.take i).map tOf) sepT) := by
            show _ = _
            rw [hil, List.take_length]
            exact HF.out (fun e => hz (by rw [e]; rfl))
          have HGF : Hid (w.grownBy wr none) := gb_trans HG1.out (gb_trans HGW.out HG.out)
          have hzi : ¬ ((N.length : Int) = 0) := by omega
          clear hil hi
          go_wp2
          go_ret
          exact ⟨by rw [HR.out]; rfl, HGF.out⟩
end Go.Proofs.YtkafaocbeankiaaGreatDoor
