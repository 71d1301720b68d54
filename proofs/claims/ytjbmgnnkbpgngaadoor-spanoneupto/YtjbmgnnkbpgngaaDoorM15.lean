import Derived.Test.YtjbmgnnkbpgngaaDoorM11
import Derived.Test.YtjbmgnnkbpgngaaDoorM14
/-
  Sound and Holds of the program, walked.
-/
namespace Go.Proofs.YtjbmgnnkbpgngaaDoor
open Go.RowKit
set_option linter.unusedVariables false

theorem elt_row {w : World} {A t : Nat} {s : Sp} (h : w.heap[A]? = some (.cells #[.int .i64 s.f1, .int .i64 s.f2, .int .i64 s.f3, .string s.f4, .string s.f5, .int .i64 s.t1, .int .i64 s.t2, .int .i64 s.t3, .string s.t4, .string s.t5, .bool s.o] t (0, 0))) : EltAt w ⟨A, 0, none⟩ s :=
  ⟨by rw [Lib.cell_of_heap h]; rfl, by rw [Lib.cell_of_heap h]; rfl, by rw [Lib.cell_of_heap h]; rfl, by rw [Lib.cell_of_heap h]; rfl, by rw [Lib.cell_of_heap h]; rfl, by rw [Lib.cell_of_heap h]; rfl, by rw [Lib.cell_of_heap h]; rfl, by rw [Lib.cell_of_heap h]; rfl, by rw [Lib.cell_of_heap h]; rfl, by rw [Lib.cell_of_heap h]; rfl, by rw [Lib.cell_of_heap h]; rfl⟩

set_option maxRecDepth 100000 in
set_option maxHeartbeats 1600000 in
theorem psound_at (a : Addr) (cap : Nat) (L : List Sp) (w : World) (hL : L.length < 2 ^ 62) (hcap : L.length ≤ cap) (h : SpAt w a L) (hsz : ∀ s ∈ L, smallS s) :
    Calls Tryd.prog 23 #[.slice (some a) L.length cap] w fun e w' => e = .returned (.bool (L.all soundS)) ∧ w.grownBy w' none := by
  have HA : Hid (SpAt w a L) := h
  have HS : Hid (∀ s ∈ L, smallS s) := hsz
  clear h hsz
  obtain ⟨R, hR⟩ : ∃ R, L.all soundS = R := ⟨_, rfl⟩
  have HR : Hid (L.all soundS = R) := hR
  rw [hR]
  clear hR
  go_enter Tryd.func23, Tryd.ntmps23
  go_wp2
  go_loopw [7] (fun vi wr => ∃ i : Nat, vi = .int .i64 i ∧ i ≤ L.length ∧ (∀ j (hj : j < L.length), j < i → soundS L[j] = true) ∧ w.grownBy wr none) (fun vi _ => L.length - (intOf vi).toNat)
  case atStart => exact ⟨0, rfl, Nat.zero_le _, fun j hj h => absurd h (by omega), gb_refl _ _⟩
  case round =>
    obtain ⟨i, rfl, hi, hp, hg⟩ := hrel
    have HP : Hid (∀ j (hj : j < L.length), j < i → soundS L[j] = true) := hp
    have HG : Hid (w.grownBy wr none) := hg
    clear hp hg
    by_cases hlt : i < L.length
    · obtain ⟨s, hs⟩ : ∃ s, L[i] = s := ⟨_, rfl⟩
      have HE : Hid (EltAt wr (a.add (i * 11)) s) := by show EltAt wr _ s; rw [← hs]; exact (HA.out i hlt).grow HG.out
      have hm : smallS s := by rw [← hs]; exact HS.out _ (List.getElem_mem hlt)
      have HSS : Hid (L[i] = s) := hs
      have CF : Hid (∀ w, Calls Tryd.prog 33 #[.agg #[.int .i64 s.f1, .int .i64 s.f2, .int .i64 s.f3, .string s.f4, .string s.f5]] w fun e w' => e = .returned (.bool (soundV (vFrom s))) ∧ w.grownBy w' none) := fun w => psound_any s.f1 s.f2 s.f3 s.f4 s.f5 w (by have := hm.1; omega) (by have := hm.2.1; omega)
      have CT : Hid (∀ w, Calls Tryd.prog 33 #[.agg #[.int .i64 s.t1, .int .i64 s.t2, .int .i64 s.t3, .string s.t4, .string s.t5]] w fun e w' => e = .returned (.bool (soundV (vTo s))) ∧ w.grownBy w' none) := fun w => psound_any s.t1 s.t2 s.t3 s.t4 s.t5 w (by have := hm.2.2.1; omega) (by have := hm.2.2.2; omega)
      obtain ⟨x, hx⟩ : ∃ x, soundV (vFrom s) = x := ⟨_, rfl⟩
      obtain ⟨y, hy⟩ : ∃ y, soundV (vTo s) = y := ⟨_, rfl⟩
      rw [hx] at CF
      rw [hy] at CT
      have HXY : Hid (soundS s = (x && (s.o || y))) := by show soundS s = _; unfold soundS; rw [hx, hy]
      clear hx hy hm hs
      obtain ⟨e0, e1, e2, e3, e4, e5, e6, e7, e8, e9, e10⟩ := HE.out
      go_wp2_with (first | (go_at_call 33; refine (CF.out _).mono ?_))
      rintro e w1 ⟨rfl, hg⟩
      obtain ⟨N, hN⟩ : ∃ N, wr.heap.size = N := ⟨_, rfl⟩
      have HE1 : Hid (EltAt w1 ⟨N, 0, none⟩ s) := by
        refine EltAt.grow ?_ hg
        rw [← hN]
        exact elt_row (t := 47) (heap_alloc_new wr _)
      replace HG : Hid (w.grownBy w1 none) := gb_trans (gb_alloc HG.out _) hg
      rw [hN]
      clear hN hg e0 e1 e2 e3 e4 e5 e6 e7 e8 e9 e10
      obtain ⟨e0, e1, e2, e3, e4, e5, e6, e7, e8, e9, e10⟩ := HE1.out
      simp only [Nat.zero_add] at e1 e2 e3 e4 e5 e6 e7 e8 e9 e10
      obtain ⟨ob, hob⟩ : ∃ b, s.o = b := ⟨_, rfl⟩
      rw [hob] at e10 HXY
      clear hob
      cases x with
      | false =>
        rw [Bool.false_and] at HXY
        have HRF : Hid (R = false) := by
          show R = false
          rw [← HR.out, List.all_eq_false]
          exact ⟨L[i], List.getElem_mem hlt, by rw [HSS.out, HXY.out]; decide⟩
        clear HXY
        go_wp2
        go_ret
        exact ⟨ret_bool HRF.out.symm, HG.out⟩
      | true =>
        rw [Bool.true_and] at HXY
        cases ob with
        | true =>
          rw [Bool.true_or] at HXY
          have HT : Hid (soundS s = true) := by show soundS s = true; rw [HXY.out]
          clear HXY
          go_wp2
          go_roundw
          case rel =>
            refine ⟨i + 1, by go_num, by omega, fun j hj hji => ?_, HG.out⟩
            by_cases hji' : j < i
            · exact HP.out j hj hji'
            · have e : j = i := by omega
              subst e
              rw [HSS.out]; exact HT.out
          case measure => simp [intOf]; omega
        | false =>
          rw [Bool.false_or] at HXY
          go_wp2_with (first | (go_at_call 33; refine (CT.out _).mono ?_))
          rintro e w2 ⟨rfl, hg⟩
          replace HG : Hid (w.grownBy w2 none) := gb_trans HG.out hg
          clear hg e0 e1 e2 e3 e4 e5 e6 e7 e8 e9 e10
          cases y with
          | true =>
            have HT : Hid (soundS s = true) := by show soundS s = true; rw [HXY.out]
            clear HXY
            go_wp2
            go_roundw
            case rel =>
              refine ⟨i + 1, by go_num, by omega, fun j hj hji => ?_, HG.out⟩
              by_cases hji' : j < i
              · exact HP.out j hj hji'
              · have e : j = i := by omega
                subst e
                rw [HSS.out]; exact HT.out
            case measure => simp [intOf]; omega
          | false =>
            have HRF : Hid (R = false) := by
              show R = false
              rw [← HR.out, List.all_eq_false]
              exact ⟨L[i], List.getElem_mem hlt, by rw [HSS.out, HXY.out]; decide⟩
            clear HXY
            go_wp2
            go_ret
            exact ⟨ret_bool HRF.out.symm, HG.out⟩
    · have HRT : Hid (R = true) := by
        show R = true
        rw [← HR.out, List.all_eq_true]
        intro t ht
        obtain ⟨j, hj, rfl⟩ := List.getElem_of_mem ht
        exact HP.out j hj (by omega)
      clear hi
      go_wp2
      go_ret
      exact ⟨ret_bool HRT.out.symm, HG.out⟩

set_option maxHeartbeats 400000 in
theorem psound_nil (w : World) : Calls Tryd.prog 23 #[.slice none 0 0] w fun e w' => e = .returned (.bool true) ∧ w.grownBy w' none := by
  go_enter Tryd.func23, Tryd.ntmps23
  go_wp2
  go_loopw [7] (fun vi wr => vi = .int .i64 0 ∧ w.grownBy wr none) (fun vi _ => 0)
  case atStart => exact ⟨rfl, gb_refl _ _⟩
  case round =>
    obtain ⟨rfl, hg⟩ := hrel
    have HG : Hid (w.grownBy wr none) := hg
    clear hg
    go_wp2
    go_ret
    exact ⟨rfl, HG.out⟩

set_option maxRecDepth 100000 in
set_option maxHeartbeats 1600000 in
theorem pholds_at (a : Addr) (cap : Nat) (L : List Sp) (v1 v2 v3 : Int) (v4 v5 : ByteArray) (w : World) (hL : L.length < 2 ^ 62) (hcap : L.length ≤ cap) (h : SpAt w a L) (hsz : ∀ s ∈ L, smallS s) (hv : v4.size ≤ 1048576) :
    Calls Tryd.prog 11 #[.slice (some a) L.length cap, .agg #[.int .i64 v1, .int .i64 v2, .int .i64 v3, .string v4, .string v5]] w fun e w' => e = .returned (.bool (holdsL L ⟨v1, v2, v3, v4.data.toList⟩)) ∧ w.grownBy w' none := by
  have HA : Hid (SpAt w a L) := h
  have HS : Hid (∀ s ∈ L, smallS s) := hsz
  have HV4 : Hid (v4.size ≤ 1048576) := hv
  clear h hsz hv
  obtain ⟨v, hv⟩ : ∃ v : V, v = ⟨v1, v2, v3, v4.data.toList⟩ := ⟨_, rfl⟩
  have HV : Hid (v = ⟨v1, v2, v3, v4.data.toList⟩) := hv
  rw [← hv]
  obtain ⟨R, hR⟩ : ∃ R, holdsL L v = R := ⟨_, rfl⟩
  have HR : Hid (holdsL L v = R) := hR
  rw [hR]
  clear hR hv
  go_enter Tryd.func11, Tryd.ntmps11
  go_wp2
  obtain ⟨A, hA⟩ : ∃ A, w.heap.size = A := ⟨_, rfl⟩
  obtain ⟨W, hW⟩ : ∃ W, w.alloc (.cells #[.int .i64 v1, .int .i64 v2, .int .i64 v3, .string v4, .string v5] 34) = W := ⟨_, rfl⟩
  have HG0 : Hid (w.grownBy W none) := by show w.grownBy W none; rw [← hW]; exact gb_alloc (gb_refl w none) _
  have STv : Hid (St A v1 v2 v3 v4 v5 W) := by show St _ _ _ _ _ _ W; rw [← hW, ← hA]; exact st_row (t := 34) (heap_alloc_new w _)
  try rw [hW]
  try rw [hA]
  clear hW hA
  go_loopw [9] (fun vi wr => ∃ i : Nat, vi = .int .i64 i ∧ i ≤ L.length ∧ (∀ j (hj : j < L.length), j < i → hasS L[j] v = false) ∧ W.grownBy wr none) (fun vi _ => L.length - (intOf vi).toNat)
  case atStart => exact ⟨0, rfl, Nat.zero_le _, fun j hj h => absurd h (by omega), gb_refl _ _⟩
  case round =>
    obtain ⟨i, rfl, hi, hp, hg⟩ := hrel
    have HP : Hid (∀ j (hj : j < L.length), j < i → hasS L[j] v = false) := hp
    have HG : Hid (W.grownBy wr none) := hg
    have STr : Hid (St A v1 v2 v3 v4 v5 wr) := STv.out.grow hg
    clear hp hg
    by_cases hlt : i < L.length
    · obtain ⟨s, hs⟩ : ∃ s, L[i] = s := ⟨_, rfl⟩
      have HE : Hid (EltAt wr (a.add (i * 11)) s) := by show EltAt wr _ s; rw [← hs]; exact ((HA.out i hlt).grow HG0.out).grow HG.out
      have hm : smallS s := by rw [← hs]; exact HS.out _ (List.getElem_mem hlt)
      have HSS : Hid (L[i] = s) := hs
      obtain ⟨x, hx⟩ : ∃ x, verC v (cFrom s) = x := ⟨_, rfl⟩
      obtain ⟨y, hy⟩ : ∃ y, verC v (cTo s) = y := ⟨_, rfl⟩
      have CF : Hid (∀ w, Calls Tryd.prog 20 #[.agg #[.int .i64 v1, .int .i64 v2, .int .i64 v3, .string v4, .string v5], .agg #[.int .i64 s.f1, .int .i64 s.f2, .int .i64 s.f3, .string s.f4, .string s.f5]] w fun e w' => e = .returned (.int .i64 x) ∧ w.grownBy w' none) := fun w => by
        rw [← hx, HV.out]; exact compare_any v1 v2 v3 s.f1 s.f2 s.f3 v4 v5 s.f4 s.f5 w (by have := HV4.out; omega) (by have := hm.1; omega)
      have CT : Hid (∀ w, Calls Tryd.prog 20 #[.agg #[.int .i64 v1, .int .i64 v2, .int .i64 v3, .string v4, .string v5], .agg #[.int .i64 s.t1, .int .i64 s.t2, .int .i64 s.t3, .string s.t4, .string s.t5]] w fun e w' => e = .returned (.int .i64 y) ∧ w.grownBy w' none) := fun w => by
        rw [← hy, HV.out]; exact compare_any v1 v2 v3 s.t1 s.t2 s.t3 v4 v5 s.t4 s.t5 w (by have := HV4.out; omega) (by have := hm.2.2.1; omega)
      have HXY : Hid (hasS s v = (decide (0 ≤ x) && (s.o || decide (y < 0)))) := by
        show hasS s v = _
        unfold hasS
        have := good_ver.anti v (cFrom s)
        rw [hx] at this
        rw [this, hy]
        congr 1
        rw [Bool.eq_iff_iff]; simp
      clear hm hs hx hy
      obtain ⟨e0, e1, e2, e3, e4, e5, e6, e7, e8, e9, e10⟩ := HE.out
      obtain ⟨N, hN⟩ : ∃ N, wr.heap.size = N := ⟨_, rfl⟩
      obtain ⟨W2, hW2⟩ : ∃ W2, wr.alloc (.cells #[.int .i64 s.f1, .int .i64 s.f2, .int .i64 s.f3, .string s.f4, .string s.f5, .int .i64 s.t1, .int .i64 s.t2, .int .i64 s.t3, .string s.t4, .string s.t5, .bool s.o] 47) = W2 := ⟨_, rfl⟩
      have hg2 : wr.grownBy W2 none := by rw [← hW2]; exact gb_alloc (gb_refl wr none) _
      have HE2 : Hid (EltAt W2 ⟨N, 0, none⟩ s) := by
        show EltAt W2 _ s
        rw [← hN, ← hW2]
        exact elt_row (t := 47) (heap_alloc_new wr _)
      replace STr : Hid (St A v1 v2 v3 v4 v5 W2) := STr.out.grow hg2
      replace HG : Hid (W.grownBy W2 none) := gb_trans HG.out hg2
      clear hg2
      obtain ⟨s1, s2, s3, s4, s5⟩ := STr.out
      obtain ⟨d0, d1, d2, d3, d4, d5, d6, d7, d8, d9, d10⟩ := HE2.out
      simp only [Nat.zero_add] at d1 d2 d3 d4 d5 d6 d7 d8 d9 d10
      go_wp2_with (first | (go_at_call 20; refine (CF.out _).mono ?_))
      rintro e w1 ⟨rfl, hg⟩
      have HE1 : Hid (EltAt w1 ⟨N, 0, none⟩ s) := HE2.out.grow hg
      replace STr : Hid (St A v1 v2 v3 v4 v5 w1) := STr.out.grow hg
      replace HG : Hid (W.grownBy w1 none) := gb_trans HG.out hg
      try rw [hN]
      clear hN hW2 hg e0 e1 e2 e3 e4 e5 e6 e7 e8 e9 e10 s1 s2 s3 s4 s5 d0 d1 d2 d3 d4 d5 d6 d7 d8 d9 d10
      obtain ⟨e0, e1, e2, e3, e4, e5, e6, e7, e8, e9, e10⟩ := HE1.out
      simp only [Nat.zero_add] at e1 e2 e3 e4 e5 e6 e7 e8 e9 e10
      obtain ⟨s1, s2, s3, s4, s5⟩ := STr.out
      obtain ⟨ob, hob⟩ : ∃ b, s.o = b := ⟨_, rfl⟩
      rw [hob] at e10 HXY
      clear hob
      by_cases hx0 : 0 ≤ x
      · rw [decide_eq_true hx0, Bool.true_and] at HXY
        cases ob with
        | true =>
          rw [Bool.true_or] at HXY
          have HRT : Hid (R = true) := by
            show R = true
            rw [← HR.out]; unfold holdsL
            rw [List.any_eq_true]
            exact ⟨L[i], List.getElem_mem hlt, by rw [HSS.out]; exact HXY.out⟩
          go_wp2
          go_ret
          exact ⟨ret_bool HRT.out.symm, gb_trans HG0.out HG.out⟩
        | false =>
          rw [Bool.false_or] at HXY
          go_wp2_with (first | (go_at_call 20; refine (CT.out _).mono ?_))
          rintro e w2 ⟨rfl, hg⟩
          replace HG : Hid (W.grownBy w2 none) := gb_trans HG.out hg
          clear hg e0 e1 e2 e3 e4 e5 e6 e7 e8 e9 e10 s1 s2 s3 s4 s5
          by_cases hy0 : y < 0
          · rw [decide_eq_true hy0] at HXY
            have HRT : Hid (R = true) := by
              show R = true
              rw [← HR.out]; unfold holdsL
              rw [List.any_eq_true]
              exact ⟨L[i], List.getElem_mem hlt, by rw [HSS.out]; exact HXY.out⟩
            go_wp2
            go_ret
            exact ⟨ret_bool HRT.out.symm, gb_trans HG0.out HG.out⟩
          · rw [decide_eq_false hy0] at HXY
            go_wp2
            go_roundw
            case rel =>
              refine ⟨i + 1, by go_num, by omega, fun j hj hji => ?_, HG.out⟩
              by_cases hji' : j < i
              · exact HP.out j hj hji'
              · have e : j = i := by omega
                subst e
                rw [HSS.out]; exact HXY.out
            case measure => simp [intOf]; omega
      · rw [decide_eq_false hx0, Bool.false_and] at HXY
        go_wp2
        go_roundw
        case rel =>
          refine ⟨i + 1, by go_num, by omega, fun j hj hji => ?_, HG.out⟩
          by_cases hji' : j < i
          · exact HP.out j hj hji'
          · have e : j = i := by omega
            subst e
            rw [HSS.out]; exact HXY.out
        case measure => simp [intOf]; omega
    · have HRF : Hid (R = false) := by
        show R = false
        rw [← HR.out]; unfold holdsL
        rw [List.any_eq_false]
        intro t ht
        obtain ⟨j, hj, rfl⟩ := List.getElem_of_mem ht
        rw [HP.out j hj (by omega)]; decide
      clear hi
      go_wp2
      go_ret
      exact ⟨ret_bool HRF.out.symm, gb_trans HG0.out HG.out⟩

set_option maxHeartbeats 400000 in
theorem pholds_nil (v1 v2 v3 : Int) (v4 v5 : ByteArray) (w : World) : Calls Tryd.prog 11 #[.slice none 0 0, .agg #[.int .i64 v1, .int .i64 v2, .int .i64 v3, .string v4, .string v5]] w fun e w' => e = .returned (.bool false) ∧ w.grownBy w' none := by
  go_enter Tryd.func11, Tryd.ntmps11
  go_wp2
  go_loopw [9] (fun vi wr => vi = .int .i64 0 ∧ w.grownBy wr none) (fun vi _ => 0)
  case atStart => exact ⟨rfl, gb_alloc (gb_refl _ _) _⟩
  case round =>
    obtain ⟨rfl, hg⟩ := hrel
    have HG : Hid (w.grownBy wr none) := hg
    clear hg
    go_wp2
    go_ret
    exact ⟨rfl, HG.out⟩
end Go.Proofs.YtjbmgnnkbpgngaaDoor
