import Derived.Test.YtkafaocbeankiaaGreatDoorM15
import Derived.Test.YtkafaocbeankiaaGreatDoorM23
/-
  normalBy of the document, walked.
-/
namespace Go.Proofs.YtkafaocbeankiaaGreatDoor
open Go.RowKit
set_option linter.unusedVariables false

theorem infoSr : (Tryz.prog.info? 45).map (fun i => (i.zero, i.size, i.bytes)) = some (some (.agg #[.int .i64 0, .int .i64 0, .int .i64 0, .string ⟨#[]⟩, .string ⟨#[]⟩, .int .i64 0, .int .i64 0, .int .i64 0, .string ⟨#[]⟩, .string ⟨#[]⟩, .bool false]), 11, 120) := by kernel_rfl
theorem sr_own {w : World} {base : Nat} {v : Value} {L : List Sp} (h : w.ownsRow base 45 11 v L.length (L.flatMap spC)) : SpS w v L := by
  rcases h.2 with ⟨h1, h2⟩ | ⟨g, cap, cur, h1, hb, hg, hn, hm, hs, ht⟩
  · exact Or.inl ⟨h1, List.length_eq_zero_iff.1 h2⟩
  · refine Or.inr ⟨⟨g, 0, none⟩, cap, h1, hn, fun i hi => elt_of_cells fun k u hu => ?_⟩
    have := flat_get L i hi k u hu
    exact h.cells (g := g) (by rw [h1]; rfl) (i * 11 + k) u this
theorem closeV (x y : V) {P : List Value} {k : Nat} (hP : P.length = k) :
    ((((((P ++ spC (spV y zeroV0 true)).set (k + 5) (.int .i64 x.major)).set (k + 6) (.int .i64 x.minor)).set (k + 7) (.int .i64 x.patch)).set (k + 8) (.string ⟨x.pre.toArray⟩)).set (k + 9) (.string ⟨#[]⟩)).set (k + 10) (.bool false) = P ++ spC (spV y x false) := by
  rw [set_behind hP, set_behind hP, set_behind hP, set_behind hP, set_behind hP, set_behind hP]
  simp only [spC, spV, zeroV0, List.set]
theorem openV (x : V) : spC (spV x zeroV0 true) = [.int .i64 x.major, .int .i64 x.minor, .int .i64 x.patch, .string ⟨x.pre.toArray⟩, .string ⟨#[]⟩, .int .i64 0, .int .i64 0, .int .i64 0, .string ⟨#[]⟩, .string ⟨#[]⟩, .bool true] := by
  simp only [spC, spV, zeroV0]
theorem last_cellR {w : World} {base : Nat} {gs capS M : Nat} {A : List Sp} {s : Sp} (h : w.ownsRow base 45 11 (.slice (some ⟨gs, 0, none⟩) (M + 1) capS) (M + 1) ((A ++ [s]).flatMap spC)) (hA : A.length = M) (q : Nat) (v : Value) (hq : (spC s)[q]? = some v) : w.cell? ⟨gs, M * 11 + q, none⟩ = some v := by
  have h1 : ((A ++ [s]).flatMap spC)[M * 11 + q]? = some v := flat_get (A ++ [s]) M (by rw [List.length_append, hA]; simp) q v (by rw [List.getElem_append_right (by omega)]; simpa [hA] using hq)
  have := h.cells (g := gs) rfl (M * 11 + q) v h1
  rw [add_zero_off] at this
  exact this
theorem gb_row0 {w wa wb : World} {row : Option Nat} (h : w.grownBy wa none) (hg : wa.grownBy wb row) (hr : ∀ q, row = some q → w.heap.size ≤ q) : w.grownBy wb none :=
  ⟨hg.os.trans h.os, hg.tape.trans h.tape, hg.output.trans h.output, Nat.le_trans h.size hg.size, fun k hk hn => (hg.block k (Nat.lt_of_lt_of_le hk h.size) (fun e => by have := hr k e.symm; omega)).trans (h.block k hk hn)⟩
/-- a row of yes and no -/
def HadAt (w : World) (a : Addr) (l : List Bool) : Prop := ∀ i (hi : i < l.length), w.cell? (a.add i) = some (.bool l[i])
theorem HadAt.grow {w w' : World} {a : Addr} {l : List Bool} (h : HadAt w a l) (hg : w.grownBy w' none) : HadAt w' a l := fun i hi => hg.cell (h i hi) (by simp)
/-- how far normalBy has come -/
def NRel (D : List V) (h : V → Bool) (w : World) (vo von vi : Value) (wk : World) : Prop :=
  ∃ (i : Nat) (on : Bool) (T : List V), vi = .int .i64 i ∧ von = .bool on ∧ i ≤ D.length ∧ tog h false D = T ++ tog h on (D.drop i) ∧ T.length ≤ i ∧ (T.length % 2 = if on = true then 1 else 0) ∧
    wk.ownsRow w.heap.size 45 11 vo (outs T).length ((outs T).flatMap spC) ∧ w.grownBy wk none

set_option maxRecDepth 100000 in
set_option maxHeartbeats 3200000 in
theorem normalBy_at (a : Addr) (cap : Nat) (a' : Addr) (cap' : Nat) (D : List V) (h : V → Bool) (w : World) (hl : D.length ≤ 4194304) (hcap : D.length ≤ cap) (hcap' : D.length ≤ cap') (hv : VsAt w a D) (hh : HadAt w a' (D.map h)) :
    Calls Tryz.prog 29 #[.slice (some a) D.length cap, .slice (some a') D.length cap'] w fun e w' => ∃ vo, e = .returned vo ∧ SpS w' vo (outs (tog h false D)) ∧ w.grownBy w' none := by
  have hinfo := infoSr
  obtain ⟨i1, hj0, hjj⟩ := Option.map_eq_some_iff.1 hinfo
  simp only [Prod.mk.injEq] at hjj
  obtain ⟨hy0, hy1, hyb⟩ := hjj
  clear hinfo
  have HV : Hid (VsAt w a D) := hv
  have HH : Hid (HadAt w a' (D.map h)) := hh
  clear hv hh
  go_enter Tryz.func29, Tryz.ntmps29
  go_wp2
  go_loopw [5, 6, 7] (fun vo von vi wk => NRel D h w vo von vi wk) (fun _ _ vi _ => D.length - (intOf vi).toNat)
  case atStart => exact ⟨0, false, [], rfl, rfl, Nat.zero_le _, rfl, Nat.le_refl _, rfl, World.ownsRow_nil _ _ _ _, gb_refl _ _⟩
  case round =>
    obtain ⟨i, on, T, rfl, rfl, hi, hT, hTl, hTp, how, hg⟩ := hrel
    have HG : Hid (w.grownBy wr none) := hg
    have HO : Hid (wr.ownsRow w.heap.size 45 11 u5 (outs T).length ((outs T).flatMap spC)) := how
    clear hg how
    by_cases hlt : i < D.length
    · obtain ⟨d, hd⟩ : ∃ d, D[i] = d := ⟨_, rfl⟩
      obtain ⟨b, hb⟩ : ∃ b, h d = b := ⟨_, rfl⟩
      have HE : Hid (VAt wr (a.add (i * 5)) d) := by show VAt wr _ d; rw [← hd]; exact (HV.out i hlt).grow HG.out
      have hc : wr.cell? (a'.add i) = some (.bool b) := by
        have := HG.out.cell (HH.out i (by simpa using hlt)) (by simp)
        simp only [List.getElem_map] at this
        rw [hd, hb] at this; exact this
      have HDR : Hid (tog h on (D.drop i) = if b = on then tog h on (D.drop (i + 1)) else d :: tog h b (D.drop (i + 1))) := by
        show _ = _
        rw [List.drop_eq_getElem_cons hlt, hd, tog, hb]
      have HTT : Hid (tog h false D = T ++ tog h on (D.drop i) ∧ T.length ≤ i ∧ (T.length % 2 = if on = true then 1 else 0)) := ⟨hT, hTl, hTp⟩
      have HCW : Hid (w.cell? (a'.add i) = some (.bool b)) := by
        have := HH.out i (by simpa using hlt)
        simp only [List.getElem_map] at this
        rw [hd, hb] at this; exact this
      clear hT hTl hTp hd hb
      obtain ⟨e0, e1, e2, e3, e4⟩ := HE.out
      cases on with
      | false =>
        cases b with
        | false =>
          have HNEW : Hid (tog h false D = T ++ tog h false (D.drop (i + 1))) := by show _ = _; rw [HTT.out.1, HDR.out, if_pos rfl]
          have HTP : Hid (T.length ≤ i ∧ (T.length % 2 = if false = true then 1 else 0)) := HTT.out.2
          clear HTT HDR
          go_wp2
          go_roundw
          case rel => exact ⟨i + 1, false, T, by go_num, rfl, by omega, HNEW.out, by have := HTP.out.1; omega, HTP.out.2, HO.out, HG.out⟩
          case measure => simp [intOf]; omega
        | true =>
          have HNEW : Hid (tog h false D = (T ++ [d]) ++ tog h true (D.drop (i + 1))) := by
            show _ = _
            rw [HTT.out.1, HDR.out, if_neg (by decide), List.append_assoc]; rfl
          have HTP : Hid (T.length ≤ i ∧ T.length % 2 = 0) := ⟨HTT.out.2.1, by have := HTT.out.2.2; simpa using this⟩
          have HOL : Hid ((outs T).length ≤ 4194304) := by show _ ≤ _; have q1 := outs_len T; have q2 := HTP.out.1; omega
          clear HTT HDR
          go_wp2_with (first | (at_builtin; refine wpList_append_own _ rfl _ _ 22 rfl w.heap.size 45 i1 _ 11 120 Tryz.underlying22 hj0 hy0 hy1 hyb rfl (by decide) _ _ _ rfl (HO.out.alloc _) _ 1 1 (spC (spV d zeroV0 true)) rfl rfl (by rw [openV]; exact World.news_of_block (heap_alloc_new _ _)) (news_one _) (by unfold maxLen; have := HOL.out; omega) (by have := HOL.out; omega) (by have q1 := HG.out.size; simp; omega) ?_; intro v' w7 hown7 hgrow _; have HF2 : Hid (w.grownBy w7 none) := gb_row0 (gb_alloc HG.out _) hgrow (fun q hq => (HO.out.lt q hq).1); have hc7 : w7.cell? (a'.add i) = some (.bool true) := HF2.out.cell HCW.out (by simp)))
          have HF3 : Hid (w7.ownsRow w.heap.size 45 11 v' (outs (T ++ [d])).length ((outs (T ++ [d])).flatMap spC)) := by
            show World.ownsRow _ _ _ _ _ _ _
            rw [outs_even T _ HTP.out.2, List.length_append, List.flatMap_append]
            simpa using hown7
          exact ⟨⟨i + 1, true, T ++ [d], by go_num, rfl, by omega, HNEW.out, by have := HTP.out.1; simp; omega, by have := HTP.out.2; simp; omega, HF3.out, HF2.out⟩, by simp [intOf]; omega⟩
      | true =>
        cases b with
        | false =>
          have HNEW : Hid (tog h false D = (T ++ [d]) ++ tog h false (D.drop (i + 1))) := by
            show _ = _
            rw [HTT.out.1, HDR.out, if_neg (by decide), List.append_assoc]; rfl
          have HTP : Hid (T.length ≤ i ∧ T.length % 2 = 1) := ⟨HTT.out.2.1, by have := HTT.out.2.2; simpa using this⟩
          have hOL : (outs T).length ≤ 4194304 := by have q1 := outs_len T; have q2 := HTP.out.1; omega
          obtain ⟨A, y, hA1, hA2⟩ := outs_odd T d HTP.out.2
          rw [hA1] at HO hOL
          obtain ⟨M, hM⟩ : ∃ M, A.length = M := ⟨_, rfl⟩
          have hlen : (A ++ [spV y zeroV0 true]).length = M + 1 := by rw [List.length_append, hM]; rfl
          rw [hlen] at HO hOL
          obtain ⟨gs, capS, hu5⟩ : ∃ gs capS, u5 = .slice (some ⟨gs, 0, none⟩) (M + 1) capS := by
            rcases HO.out.2 with ⟨_, h0⟩ | ⟨g, cap, cur, h1, _⟩
            · omega
            · exact ⟨g, cap, h1⟩
          subst hu5
          have HA2 : Hid (outs (T ++ [d]) = A ++ [spV y d false] ∧ A.length = M) := ⟨hA2, hM⟩
          have hm1 : IntKind.i64.wrap (((M + 1 : Nat) : Int) - 1) = ((M : Nat) : Int) := by rw [IntKind.wrap_i64]; omega
          have hm2 : ((M + 1 : Nat) : Int) - 1 = (M : Int) := by omega
          have hm3 : (M : Int) < ((M + 1 : Nat) : Int) := by omega
          have hm4 : (M : Int) < (M : Int) + 1 := by omega
          clear HTT HDR hA1 hA2 hM hlen
          have HGS : Hid (w.heap.size ≤ gs) := (HO.out.lt gs rfl).1
          have g9 : wr.grownBy ((((((wr.setCell ⟨gs, M * 11 + 5, none⟩ (.int .i64 d.major)).setCell ⟨gs, M * 11 + 5 + 1, none⟩ (.int .i64 d.minor)).setCell ⟨gs, M * 11 + 5 + 2, none⟩ (.int .i64 d.patch)).setCell ⟨gs, M * 11 + 5 + 3, none⟩ (.string ⟨d.pre.toArray⟩)).setCell ⟨gs, M * 11 + 5 + 4, none⟩ (.string ⟨#[]⟩)).setCell ⟨gs, M * 11 + 10, none⟩ (.bool false)) (some gs) := gb_set (gb_set (gb_set (gb_set (gb_set (gb_set (gb_refl wr (some gs)) _ _) _ _) _ _) _ _) _ _) _ _
          have HG9 : Hid (w.grownBy ((((((wr.setCell ⟨gs, M * 11 + 5, none⟩ (.int .i64 d.major)).setCell ⟨gs, M * 11 + 5 + 1, none⟩ (.int .i64 d.minor)).setCell ⟨gs, M * 11 + 5 + 2, none⟩ (.int .i64 d.patch)).setCell ⟨gs, M * 11 + 5 + 3, none⟩ (.string ⟨d.pre.toArray⟩)).setCell ⟨gs, M * 11 + 5 + 4, none⟩ (.string ⟨#[]⟩)).setCell ⟨gs, M * 11 + 10, none⟩ (.bool false)) none) := gb_row0 HG.out g9 (fun q hq => by injection hq with hq; have := HGS.out; omega)
          have hc9 := HG9.out.cell HCW.out (by simp)
          have c5 := last_cellR HO.out HA2.out.2 5 _ rfl
          have c6 := last_cellR HO.out HA2.out.2 6 _ rfl
          have c7 := last_cellR HO.out HA2.out.2 7 _ rfl
          have c8 := last_cellR HO.out HA2.out.2 8 _ rfl
          have c9 := last_cellR HO.out HA2.out.2 9 _ rfl
          have c10 := last_cellR HO.out HA2.out.2 10 _ rfl
          have fz := own_unfrozen HO.out
          clear g9
          go_wp2
          clear c5 c6 c7 c8 c9 c10 fz
          have o9 := own_set (own_set (own_set (own_set (own_set (own_set HO.out (M * 11 + 5) (.int .i64 d.major) (by omega)) (M * 11 + 5 + 1) (.int .i64 d.minor) (by omega)) (M * 11 + 5 + 2) (.int .i64 d.patch) (by omega)) (M * 11 + 5 + 3) (.string ⟨d.pre.toArray⟩) (by omega)) (M * 11 + 5 + 4) (.string ⟨#[]⟩) (by omega)) (M * 11 + 10) (.bool false) (by omega)
          have hfl : (A ++ [spV y zeroV0 true]).flatMap spC = A.flatMap spC ++ spC (spV y zeroV0 true) := by rw [List.flatMap_append]; simp
          have hPl : (A.flatMap spC).length = M * 11 := by rw [flat_len, HA2.out.2]
          rw [hfl] at o9
          have hcl := closeV d y hPl
          have hol : (outs (T ++ [d])).length = M + 1 := by rw [HA2.out.1, List.length_append, HA2.out.2]; rfl
          have hof : (outs (T ++ [d])).flatMap spC = A.flatMap spC ++ spC (spV y d false) := by rw [HA2.out.1, List.flatMap_append]; simp
          refine ⟨⟨i + 1, false, T ++ [d], by go_num, rfl, by omega, HNEW.out, by have := HTP.out.1; simp; omega, by have := HTP.out.2; simp; omega, ?_, HG9.out⟩, by simp [intOf]; omega⟩
          rw [hol, hof, ← hcl]
          exact o9
        | true =>
          have HNEW : Hid (tog h false D = T ++ tog h true (D.drop (i + 1))) := by show _ = _; rw [HTT.out.1, HDR.out, if_pos rfl]
          have HTP : Hid (T.length ≤ i ∧ (T.length % 2 = if true = true then 1 else 0)) := HTT.out.2
          clear HTT HDR
          go_wp2
          go_roundw
          case rel => exact ⟨i + 1, true, T, by go_num, rfl, by omega, HNEW.out, by have := HTP.out.1; omega, HTP.out.2, HO.out, HG.out⟩
          case measure => simp [intOf]; omega
    · have hie : i = D.length := by omega
      have HF : Hid (SpS wr u5 (outs (tog h false D))) := by
        show SpS _ _ _
        rw [hT, hie, List.drop_length, tog, List.append_nil]
        exact sr_own HO.out
      clear hT hTl hTp hie hi HO
      go_wp2
      exact bodyPost_ret (results_tmp (t := 4) rfl _ _ _) rfl ⟨u5, rfl, HF.out, HG.out⟩
end Go.Proofs.YtkafaocbeankiaaGreatDoor
