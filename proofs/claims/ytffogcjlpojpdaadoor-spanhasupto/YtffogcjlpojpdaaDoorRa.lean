/-
  The document's small functions of versions, walked.
-/
import Derived.Test.YtffogcjlpojpdaaDoorRp
import Derived.Laws.AppendOwn
import Derived.Deep.RegionLaw
import Derived.Deep.AppendLies
namespace Go.Proofs.YtffogcjlpojpdaaDoor
open Go.RowKit
set_option linter.unusedVariables false

theorem info9 : (Tryd.prog.info? 9).map (fun i => (i.zero, i.size, i.bytes)) = some (some (.string ⟨#[]⟩), 1, 16) := by kernel_rfl
/-- texts as a slice holds them -/
def strL (D : List (List UInt8)) : List Value := D.map fun p => .string ⟨p.toArray⟩

theorem split_end (l : List UInt8) (D : List (List UInt8)) (f : Nat) (h : splitD l = D ++ splitD (l.drop f)) (hn : ∀ j, f ≤ j → j < l.length → l[j]? ≠ some 46) : splitD l = D ++ [subT l f (l.length - f)] := by
  rw [h, splitD_free (l.drop f)]
  · congr 2
    unfold subT
    exact (List.take_of_length_le (by simp)).symm
  · intro c hc e
    obtain ⟨j, hj, rfl⟩ := List.getElem_of_mem hc
    simp only [List.length_drop] at hj
    refine hn (f + j) (by omega) (by omega) ?_
    rw [← List.getElem?_drop, List.getElem?_eq_getElem (by simp; omega), e]
theorem split_dot (l : List UInt8) (D : List (List UInt8)) (f i : Nat) (hfi : f ≤ i) (hi : l[i]? = some 46) (h : splitD l = D ++ splitD (l.drop f)) (hn : ∀ j, f ≤ j → j < i → l[j]? ≠ some 46) : splitD l = (D ++ [subT l f (i - f)]) ++ splitD (l.drop (i + 1)) := by
  obtain ⟨hlt, e⟩ := List.getElem?_eq_some_iff.1 hi
  have hd : l.drop f = subT l f (i - f) ++ 46 :: l.drop (i + 1) := by
    have h1 : l.drop f = subT l f (i - f) ++ l.drop i := by
      unfold subT
      have := List.take_append_drop (i - f) (l.drop f)
      rw [List.drop_drop, show f + (i - f) = i by omega] at this
      exact this.symm
    rw [h1, List.drop_eq_getElem_cons hlt, e]
  rw [h, hd, splitD_dot]
  · simp
  · intro c hc e
    obtain ⟨j, hj, rfl⟩ := List.getElem_of_mem hc
    have hjl : j < i - f := by unfold subT at hj; simp at hj; omega
    refine hn (f + j) (by omega) (by omega) ?_
    have : (subT l f (i - f))[j]? = some 46 := by rw [List.getElem?_eq_getElem hj, e]
    unfold subT at this
    rw [List.getElem?_take_of_lt hjl, List.getElem?_drop] at this
    exact this

/-- what split answers -/
def SplitPost (l : List UInt8) (w : World) (e : Ending) (w' : World) : Prop := ∃ v, e = .returned v ∧ w'.ownsRow w.heap.size 9 1 v (splitD l).length (strL (splitD l)) ∧ Below w.heap.size w w'
set_option maxHeartbeats 800000 in
theorem split_any (s : ByteArray) (w : World) (hs : s.size ≤ 1048576) :
    Calls Tryd.prog 32 #[.string s] w (SplitPost s.data.toList w) := by
  obtain ⟨i0, hi, hz0, hz1, hzb⟩ := info_parts info9
  obtain ⟨l, hl⟩ : ∃ l, l = s.data.toList := ⟨_, rfl⟩
  have hll : l.length = s.size := by rw [hl]; simp
  rw [← hl]
  go_enter Tryd.func32, Tryd.ntmps32
  go_wp2
  go_loopw [3, 4, 5] (fun vo vf vi wr => ∃ (D : List (List UInt8)) (f i : Nat), vf = .int .i64 f ∧ vi = .int .i64 i ∧ wr.ownsRow w.heap.size 9 1 vo D.length (strL D) ∧ Below w.heap.size w wr ∧ D.length ≤ i ∧ f ≤ s.size + 1 ∧ ((i ≤ s.size ∧ f ≤ i ∧ splitD l = D ++ splitD (l.drop f) ∧ ∀ j, f ≤ j → j < i → l[j]? ≠ some 46) ∨ (i = s.size + 1 ∧ D = splitD l))) (fun _ _ vi _ => s.size + 1 - (intOf vi).toNat)
  case atStart => exact ⟨[], 0, 0, rfl, rfl, World.ownsRow_nil _ _ _ _, Below.refl _ _, Nat.le_refl _, by omega, Or.inl ⟨by omega, Nat.le_refl _, by simp, fun j _ h => by omega⟩⟩
  case round =>
    obtain ⟨D, f, i, rfl, rfl, hrow, hbl, hD, hf, hcase⟩ := hrel
    have hzz := hbl.size
    rcases hcase with ⟨hi1, hfi, hsp, hno⟩ | ⟨hi2, hDe⟩
    · have HSP : Hid (splitD l = D ++ splitD (l.drop f) ∧ ∀ j, f ≤ j → j < i → l[j]? ≠ some 46) := ⟨hsp, hno⟩
      clear hsp hno
      by_cases hlt : i < s.size
      · have hne : ((i : Int) == (s.size : Int)) = false := by simp; omega
        cases hz : ((s[i].toNat : Int) == 46) with
        | true =>
          have hc : l[i]? = some 46 := by
            rw [hl, get_data s i hlt]
            have : s[i] = 46 := UInt8.toNat_inj.1 (by have := eq_of_beq hz; have e46 : (46 : UInt8).toNat = 46 := rfl; omega)
            rw [this]
          obtain ⟨X, hX⟩ : ∃ X : ByteArray, X = ⟨(subT l f (i - f)).toArray⟩ := ⟨_, rfl⟩
          have HN : Hid (splitD l = (D ++ [subT l f (i - f)]) ++ splitD (l.drop (i + 1))) := split_dot l D f i hfi hc HSP.out.1 HSP.out.2
          have HX : Hid (strL (D ++ [subT l f (i - f)]) = strL D ++ [.string X]) := by
            show strL _ = _
            rw [hX]; simp [strL]
          have sl : ∀ wx, (Instr.slice 9 (.string s) (some (.int .i64 (f : Int))) (some (.int .i64 (i : Int))) none).run Tryd.prog wx = .ok (.string X) wx := fun wx => by rw [hX, hl]; exact run_sub s f i hfi (by omega) wx
          have HB : Hid (D.length ≤ i ∧ i < s.size) := ⟨hD, hlt⟩
          clear hX hc HSP hfi hl
          go_wp2_with (first | (at_builtin; refine wpList_append_own _ rfl _ _ 57 rfl w.heap.size 9 i0 (.string ⟨#[]⟩) 1 16 Tryd.underlying57 hi hz0 hz1 hzb rfl (by decide) _ _ _ rfl (hrow.alloc _) ⟨wr.heap.size, 0, none⟩ 1 1 [.string X] rfl rfl (cell_one_new _ _ _) (by simp [Value.oneCell']) (by unfold maxLen; omega) (by omega) (by simp; omega) ?_; intro v' w1 hown' hgrow _))
          have hb1 : Below w.heap.size w w1 := (hbl.alloc hzz _).grown hgrow (by simp; omega) (fun q hq => (hrow.lt q hq).1)
          have hB := HB.out
          refine ⟨⟨D ++ [subT l f (i - f)], i + 1, i + 1, rfl, rfl, by rw [HX.out]; simpa using hown', hb1, by simp; omega, by omega, Or.inl ⟨by omega, Nat.le_refl _, HN.out, fun j h1 h2 => by omega⟩⟩, ?_⟩
          simp [intOf]; omega
        | false =>
          have HN : Hid (l[i]? ≠ some 46) := by
            show l[i]? ≠ some 46
            rw [hl, get_data s i hlt]
            intro e
            have e' : s[i] = 46 := Option.some.inj e
            rw [e'] at hz
            exact absurd hz (by decide)
          have HF : Hid (f ≤ i ∧ D.length ≤ i ∧ f ≤ s.size + 1) := ⟨hfi, hD, hf⟩
          have HO : Hid (wr.ownsRow w.heap.size 9 1 u3 D.length (strL D)) := hrow
          have HB : Hid (Below w.heap.size w wr) := hbl
          clear hfi hD hf hrow hbl hl
          go_wp2
          go_roundw
          case rel =>
            have hF := HF.out
            refine ⟨D, f, i + 1, rfl, by go_num, HO.out, HB.out, by omega, hF.2.2, Or.inl ⟨by omega, by omega, HSP.out.1, fun j h1 h2 => ?_⟩⟩
            by_cases hj : j < i
            · exact HSP.out.2 j h1 hj
            · have : j = i := by omega
              rw [this]; exact HN.out
          case measure => simp [intOf]; omega
      · have hie : i = s.size := by omega
        subst hie
        have hne : ((s.size : Int) == (s.size : Int)) = true := by simp
        obtain ⟨X, hX⟩ : ∃ X : ByteArray, X = ⟨(subT l f (s.size - f)).toArray⟩ := ⟨_, rfl⟩
        have HN : Hid (splitD l = D ++ [subT l f (s.size - f)]) := by
          have := split_end l D f HSP.out.1 (fun j h1 h2 => HSP.out.2 j h1 (by omega))
          rw [hll] at this; exact this
        have HX : Hid (strL (D ++ [subT l f (s.size - f)]) = strL D ++ [.string X]) := by
          show strL _ = _
          rw [hX]; simp [strL]
        have sl : ∀ wx, (Instr.slice 9 (.string s) (some (.int .i64 (f : Int))) (some (.int .i64 (s.size : Int))) none).run Tryd.prog wx = .ok (.string X) wx := fun wx => by rw [hX, hl]; exact run_sub s f s.size hfi (by omega) wx
        clear hX HSP hfi hl
        go_wp2_with (first | (at_builtin; refine wpList_append_own _ rfl _ _ 57 rfl w.heap.size 9 i0 (.string ⟨#[]⟩) 1 16 Tryd.underlying57 hi hz0 hz1 hzb rfl (by decide) _ _ _ rfl (hrow.alloc _) ⟨wr.heap.size, 0, none⟩ 1 1 [.string X] rfl rfl (cell_one_new _ _ _) (by simp [Value.oneCell']) (by unfold maxLen; omega) (by omega) (by simp; omega) ?_; intro v' w1 hown' hgrow _))
        have hb1 : Below w.heap.size w w1 := (hbl.alloc hzz _).grown hgrow (by simp; omega) (fun q hq => (hrow.lt q hq).1)
        refine ⟨⟨D ++ [subT l f (s.size - f)], s.size + 1, s.size + 1, rfl, rfl, by rw [HX.out]; simpa using hown', hb1, by simp; omega, by omega, Or.inr ⟨rfl, HN.out.symm⟩⟩, ?_⟩
        simp [intOf]
    · have hgt : ¬ i ≤ s.size := by omega
      clear hi2 hll hs
      have HO : Hid (wr.ownsRow w.heap.size 9 1 u3 D.length (strL D)) := hrow
      have HB : Hid (Below w.heap.size w wr) := hbl
      have HDE : Hid (D = splitD l) := hDe
      clear hrow hbl hDe hD hf hzz hl
      go_wp2
      refine bodyPost_ret (results_tmp (t := 2) rfl _ _ _) rfl ⟨u3, rfl, ?_, HB.out⟩
      rw [← HDE.out]
      exact HO.out
end Go.Proofs.YtffogcjlpojpdaaDoor
