import Derived.Test.YtkafaocbeankiaaGreatDoorM33
/-
  Normal of the document, walked.
-/
namespace Go.Proofs.YtkafaocbeankiaaGreatDoor
open Go.RowKit
set_option linter.unusedVariables false

theorem infoB : (Tryz.prog.info? 4).map (fun i => (i.zero, i.size, i.bytes)) = some (some (.bool false), 1, 1) := by kernel_rfl
/-- the slice holds these yes and no -/
def HadS (w : World) (sl : Value) (l : List Bool) : Prop := (sl = .slice none 0 0 ∧ l = []) ∨ ∃ a cap, sl = .slice (some a) l.length cap ∧ l.length ≤ cap ∧ HadAt w a l
theorem had_own {w : World} {base : Nat} {v : Value} {l : List Bool} (h : w.ownsRow base 4 1 v l.length (l.map Value.bool)) : HadS w v l := by
  rcases h.2 with ⟨h1, h2⟩ | ⟨g, cap, cur, h1, hb, hg, hn, hm, hs, ht⟩
  · exact Or.inl ⟨h1, List.length_eq_zero_iff.1 h2⟩
  · refine Or.inr ⟨⟨g, 0, none⟩, cap, h1, hn, fun i hi => ?_⟩
    exact h.cells (g := g) (by rw [h1]; rfl) i (.bool l[i]) (by rw [List.getElem?_map, List.getElem?_eq_getElem hi]; rfl)
theorem bool_one (b : Bool) : ∀ u ∈ [Value.bool b], u.oneCell' = true := by
  intro u hu
  simp only [List.mem_cons, List.not_mem_nil, or_false] at hu
  subst hu; rfl
set_option maxHeartbeats 400000 in
theorem normalBy_zero (o : Option Addr) (c : Nat) (vh : Value) (w : World) :
    Calls Tryz.prog 29 #[.slice o 0 c, vh] w fun e w' => ∃ vo, e = .returned vo ∧ SpS w' vo [] ∧ w.grownBy w' none := by
  go_enter Tryz.func29, Tryz.ntmps29
  go_wp2
  go_loopw [5, 6, 7] (fun vo von vi wk => vi = .int .i64 0 ∧ vo = .slice none 0 0 ∧ w.grownBy wk none) (fun _ _ vi _ => 0)
  case atStart => exact ⟨rfl, rfl, gb_refl _ _⟩
  case round =>
    obtain ⟨rfl, rfl, hg⟩ := hrel
    have HG : Hid (w.grownBy wr none) := hg
    clear hg
    go_wp2
    exact bodyPost_ret (results_tmp (t := 4) rfl _ _ _) rfl ⟨_, rfl, Or.inl ⟨rfl, rfl⟩, HG.out⟩
theorem cNormalBy (vb vh : Value) (D : List V) (h : V → Bool) (w : World) (hl : D.length ≤ 4194304) (hv : VsS w vb D) (hh : HadS w vh (D.map h)) :
    Calls Tryz.prog 29 #[vb, vh] w fun e w' => ∃ vo, e = .returned vo ∧ SpS w' vo (outs (tog h false D)) ∧ w.grownBy w' none := by
  rcases hv with ⟨rfl, rfl⟩ | ⟨a, cap, rfl, h2, h3⟩
  · exact normalBy_zero _ _ _ w
  · rcases hh with ⟨rfl, h4⟩ | ⟨a', cap', rfl, h5, h6⟩
    · have hD : D = [] := by simpa using h4
      subst hD
      exact normalBy_zero _ _ _ w
    · rw [List.length_map] at h5 ⊢
      exact normalBy_at a cap a' cap' D h w hl h2 h5 h3 h6
theorem cBounds (sl : Value) (L : List Sp) (w : World) (h : SpS w sl L) (hL : L.length ≤ 2097152) (hsz : ∀ s ∈ L, smallS s) :
    Calls Tryz.prog 27 #[sl] w fun e w' => ∃ vo, e = .returned vo ∧ VsS w' vo (bnd L) ∧ w.grownBy w' none := by
  rcases h with ⟨rfl, rfl⟩ | ⟨a, cap, rfl, h2, h3⟩
  · exact bounds_nil w
  · exact bounds_at a cap L w hL h2 h3 hsz
theorem cHoldsD (sl : Value) (L : List Sp) (d : V) (w : World) (h : SpS w sl L) (hL : L.length ≤ 1048576) (hsz : ∀ s ∈ L, smallS s) (hd : d.pre.length ≤ 1048576) :
    Calls Tryz.prog 28 #[sl, .agg #[.int .i64 d.major, .int .i64 d.minor, .int .i64 d.patch, .string ⟨d.pre.toArray⟩, .string ⟨#[]⟩]] w fun e w' => e = .returned (.bool (holdsL L d)) ∧ w.grownBy w' none := by
  have := cHoldsR sl L d.major d.minor d.patch ⟨d.pre.toArray⟩ ⟨#[]⟩ w h hL hsz (by simpa [ByteArray.size] using hd)
  exact this

set_option maxRecDepth 100000 in
set_option maxHeartbeats 1600000 in
theorem rnormal_any (sl : Value) (L : List Sp) (w : World) (h : SpS w sl L) (hL : L.length ≤ 1048576) (hsz : ∀ s ∈ L, smallS s) :
    Calls Tryz.prog 16 #[sl] w fun e w' => ∃ vo, e = .returned vo ∧ SpS w' vo (outs (tog (holdsL L) false (bnd L))) ∧ w.grownBy w' none := by
  have hinfo := infoB
  obtain ⟨i1, hj0, hjj⟩ := Option.map_eq_some_iff.1 hinfo
  simp only [Prod.mk.injEq] at hjj
  obtain ⟨hy0, hy1, hyb⟩ := hjj
  clear hinfo
  have HA : Hid (SpS w sl L) := h
  have CB : Hid (∀ w, SpS w sl L → Calls Tryz.prog 27 #[sl] w fun e w' => ∃ vo, e = .returned vo ∧ VsS w' vo (bnd L) ∧ w.grownBy w' none) := fun w h => cBounds sl L w h (by omega) hsz
  have CH : Hid (∀ d w, d ∈ bnd L → SpS w sl L → Calls Tryz.prog 28 #[sl, .agg #[.int .i64 d.major, .int .i64 d.minor, .int .i64 d.patch, .string ⟨d.pre.toArray⟩, .string ⟨#[]⟩]] w fun e w' => e = .returned (.bool (holdsL L d)) ∧ w.grownBy w' none) := fun d w hd h => cHoldsD sl L d w h hL hsz (bnd_small L [] hsz (fun t ht => by simp at ht) d hd)
  have hlen : (bnd L).length ≤ 2097152 := by have := bnd_len L []; unfold bnd; simp at this; omega
  have CN : Hid (∀ vb vh w, VsS w vb (bnd L) → HadS w vh ((bnd L).map (holdsL L)) → Calls Tryz.prog 29 #[vb, vh] w fun e w' => ∃ vo, e = .returned vo ∧ SpS w' vo (outs (tog (holdsL L) false (bnd L))) ∧ w.grownBy w' none) := fun vb vh w h1 h2 => cNormalBy vb vh (bnd L) (holdsL L) w (by omega) h1 h2
  obtain ⟨D, hD⟩ : ∃ D, bnd L = D := ⟨_, rfl⟩
  obtain ⟨g, hg⟩ : ∃ g, holdsL L = g := ⟨_, rfl⟩
  rw [hD] at CB CH CN hlen ⊢
  rw [hg] at CH CN ⊢
  clear h hL hsz hD hg
  go_enter Tryz.func16, Tryz.ntmps16
  go_wp2_with (first | (go_at_call 27; refine (CB.out _ HA.out).mono ?_))
  rintro e w1 ⟨vb, rfl, hvs, hg1⟩
  replace HA : Hid (SpS w1 sl L) := HA.out.grow hg1
  have HG1 : Hid (w.grownBy w1 none) := hg1
  have HVS : Hid (VsS w1 vb D) := hvs
  clear hg1
  rcases hvs with ⟨rfl, hD0⟩ | ⟨a, cap, rfl, hcap, hat⟩
  · have HD0 : Hid (D = []) := hD0
    clear hD0
    go_wp2
    go_loopw [4, 5] (fun vh vi wk => vi = .int .i64 0 ∧ vh = .slice none 0 0 ∧ w1.grownBy wk none) (fun _ vi _ => 0)
    case atStart => exact ⟨rfl, rfl, gb_refl _ _⟩
    case round =>
      obtain ⟨rfl, rfl, hg⟩ := hrel
      have HV2 : Hid (VsS wr (.slice none 0 0) D) := HVS.out.grow hg
      have HG : Hid (w.grownBy wr none) := gb_trans HG1.out hg
      clear hg
      go_wp2_with (first | (go_at_call 29; refine (CN.out _ _ _ HV2.out (Or.inl ⟨rfl, by rw [HD0.out]; rfl⟩)).mono ?_))
      rintro e w2 ⟨vo, rfl, ho, hg⟩
      have HO : Hid (SpS w2 vo (outs (tog g false D))) := ho
      replace HG : Hid (w.grownBy w2 none) := gb_trans HG.out hg
      clear ho hg
      go_wp2
      exact bodyPost_ret (results_tmp (t := 2) rfl _ _ _) rfl ⟨vo, rfl, HO.out, HG.out⟩
  · have HAT : Hid (VsAt w1 a D) := hat
    clear hat
    go_wp2
    go_loopw [4, 5] (fun vh vi wk => ∃ i : Nat, vi = .int .i64 i ∧ i ≤ D.length ∧ wk.ownsRow w1.heap.size 4 1 vh i (((D.take i).map g).map Value.bool) ∧ w1.grownBy wk none) (fun _ vi _ => D.length - (intOf vi).toNat)
    case atStart => exact ⟨0, rfl, Nat.zero_le _, World.ownsRow_nil _ _ _ _, gb_refl _ _⟩
    case round =>
      obtain ⟨i, rfl, hi, how, hg⟩ := hrel
      have HG : Hid (w1.grownBy wr none) := hg
      have HO : Hid (wr.ownsRow w1.heap.size 4 1 u4 i (((D.take i).map g).map Value.bool)) := how
      clear how hg
      by_cases hlt : i < D.length
      · obtain ⟨d, hd⟩ : ∃ d, D[i] = d := ⟨_, rfl⟩
        have hdm : d ∈ D := by rw [← hd]; exact List.getElem_mem hlt
        have HE : Hid (VAt wr (a.add (i * 5)) d) := by show VAt wr _ d; rw [← hd]; exact (HAT.out i hlt).grow HG.out
        have HAr : Hid (SpS wr sl L) := HA.out.grow HG.out
        have HNX : Hid (((D.take (i + 1)).map g).map Value.bool = ((D.take i).map g).map Value.bool ++ [.bool (g d)]) := by
          show _ = _
          rw [List.take_succ_eq_append_getElem hlt, hd]; simp
        clear hd
        have CHd : Hid (∀ w, SpS w sl L → Calls Tryz.prog 28 #[sl, .agg #[.int .i64 d.major, .int .i64 d.minor, .int .i64 d.patch, .string ⟨d.pre.toArray⟩, .string ⟨#[]⟩]] w fun e w' => e = .returned (.bool (g d)) ∧ w.grownBy w' none) := fun w h => CH.out d w hdm h
        obtain ⟨e0, e1, e2, e3, e4⟩ := HE.out
        clear hdm
        go_wp2_with (first | (go_at_call 28; refine (CHd.out _ HAr.out).mono ?_))
        rintro e w2 ⟨rfl, hg⟩
        replace HG : Hid (w1.grownBy w2 none) := gb_trans HG.out hg
        replace HO : Hid (w2.ownsRow w1.heap.size 4 1 u4 i (((D.take i).map g).map Value.bool)) := own_keepV HO.out hg
        clear hg e0 e1 e2 e3 e4 HAr HE
        go_wp2_with (first | (at_builtin; refine wpList_append_own _ rfl _ _ 67 rfl w1.heap.size 4 i1 (.bool false) 1 1 Tryz.underlying67 hj0 hy0 hy1 hyb rfl (by decide) _ _ _ rfl (HO.out.alloc _) _ 1 1 [.bool (g d)] rfl rfl (World.news_of_block (heap_alloc_new _ _)) (bool_one _) (by unfold maxLen; omega) (by omega) (by have := HG.out.size; simp; omega) ?_; intro v9 w9 hown9 hgrow _))
        have HG9 : Hid (w1.grownBy w9 none) := gb_row0 (gb_alloc HG.out _) hgrow (fun q hq => (HO.out.lt q hq).1)
        have HO9 : Hid (w9.ownsRow w1.heap.size 4 1 v9 (i + 1) (((D.take (i + 1)).map g).map Value.bool)) := by show World.ownsRow _ _ _ _ _ _ _; rw [HNX.out]; exact hown9
        clear hgrow hown9 HNX HO HG
        go_wp2
        go_roundw
        case rel => exact ⟨i + 1, by go_num, by omega, HO9.out, HG9.out⟩
        case measure => simp [intOf]; omega
      · have hie : i = D.length := by omega
        have HHS : Hid (HadS wr u4 (D.map g)) := by
          have := HO.out
          rw [hie, List.take_length] at this
          exact had_own (by rw [List.length_map]; exact this)
        have HV2 : Hid (VsS wr (.slice (some a) D.length cap) D) := HVS.out.grow HG.out
        have HG2 : Hid (w.grownBy wr none) := gb_trans HG1.out HG.out
        clear hie hi HO
        go_wp2_with (first | (go_at_call 29; refine (CN.out _ _ _ HV2.out HHS.out).mono ?_))
        rintro e w2 ⟨vo, rfl, ho, hg⟩
        have HOO : Hid (SpS w2 vo (outs (tog g false D))) := ho
        replace HG : Hid (w.grownBy w2 none) := gb_trans HG2.out hg
        clear ho hg
        go_wp2
        exact bodyPost_ret (results_tmp (t := 2) rfl _ _ _) rfl ⟨vo, rfl, HOO.out, HG.out⟩
end Go.Proofs.YtkafaocbeankiaaGreatDoor
