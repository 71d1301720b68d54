import Derived.Test.YtjbmgnnkbpgngaaDoorM05
import Derived.Laws.AppendOwn
import Derived.Deep.RegionLaw
import Derived.Deep.AppendLies
import Derived.Shelf.Small.Wraps
import Derived.Shelf.Strings.Trim
import Derived.Shelf.Strings.Search2
import Derived.Test.YtjbmgnnkbpgngaaDoorProg
/-
  The document's small functions of versions, walked.
-/
namespace Go.Proofs.YtjbmgnnkbpgngaaDoor
open Go.RowKit
set_option linter.unusedVariables false

theorem info9 : (Tryd.prog.info? 9).map (fun i => (i.zero, i.size, i.bytes)) = some (some (.string ⟨#[]⟩), 1, 16) := by kernel_rfl
/-- texts as a slice holds them -/
def strL (D : List (List UInt8)) : List Value := D.map fun p => .string ⟨p.toArray⟩

theorem split_end (l : List UInt8) (D : List (List UInt8)) (f : Nat) (h : splitD l = D ++ splitD (l.drop f)) (hn : ∀ j, f ≤ j → j < l.length → l[j]? ≠ some 46) : splitD l = D ++ [subT l f (l.length - f)] := by
  rw [h, splitD_free (l.drop f)]
  · congr 2
    unfold subT
    exact (List.take_of_length_le (by simp)).symm
  · intro c hc e
    obtain ⟨j, hj, rfl⟩ := List.getElem_of_mem hc
    simp only [List.length_drop] at hj
    refine hn (f + j) (by omega) (by omega) ?_
    rw [← List.getElem?_drop, List.getElem?_eq_getElem (by simp; omega), e]
theorem split_dot (l : List UInt8) (D : List (List UInt8)) (f i : Nat) (hfi : f ≤ i) (hi : l[i]? = some 46) (h : splitD l = D ++ splitD (l.drop f)) (hn : ∀ j, f ≤ j → j < i → l[j]? ≠ some 46) : splitD l = (D ++ [subT l f (i - f)]) ++ splitD (l.drop (i + 1)) := by
  obtain ⟨hlt, e⟩ := List.getElem?_eq_some_iff.1 hi
  have hd : l.drop f = subT l f (i - f) ++ 46 :: l.drop (i + 1) := by
    have h1 : l.drop f = subT l f (i - f) ++ l.drop i := by
      unfold subT
      have := List.take_append_drop (i - f) (l.drop f)
      rw [List.drop_drop, show f + (i - f) = i by omega] at this
      exact this.symm
    rw [h1, List.drop_eq_getElem_cons hlt, e]
  rw [h, hd, splitD_dot]
  · simp
  · intro c hc e
    obtain ⟨j, hj, rfl⟩ := List.getElem_of_mem hc
    have hjl : j < i - f := by unfold subT at hj; simp at hj; omega
    refine hn (f + j) (by omega) (by omega) ?_
    have : (subT l f (i - f))[j]? = some 46 := by rw [List.getElem?_eq_getElem hj, e]
    unfold subT at this
    rw [List.getElem?_take_of_lt hjl, List.getElem?_drop] at this
    exact this

/-- what split answers -/
def SplitPost (l : List UInt8) (w : World) (e : Ending) (w' : World) : Prop := ∃ v, e = .returned v ∧ w'.ownsRow w.heap.size 9 1 v (splitD l).length (strL (splitD l)) ∧ Below w.heap.size w w'
set_option maxHeartbeats 800000 in
theorem split_any (s : ByteArray) (w : World) (hs : s.size ≤ 1048576) :
    Calls Tryd.prog 30 #[.string s] w (SplitPost s.data.toList w) := by
  obtain ⟨i0, hi, hz0, hz1, hzb⟩ := info_parts info9
  obtain ⟨l, hl⟩ : ∃ l, l = s.data.toList := ⟨_, rfl⟩
  have hll : l.length = s.size := by rw [hl]; simp
  rw [← hl]
  go_enter Tryd.func30, Tryd.ntmps30
  go_wp2
  go_loopw [3, 4, 5] (fun vo vf vi wr => ∃ (D : List (List UInt8)) (f i : Nat), vf = .int .i64 f ∧ vi = .int .i64 i ∧ wr.ownsRow w.heap.size 9 1 vo D.length (strL D) ∧ Below w.heap.size w wr ∧ D.length ≤ i ∧ f ≤ s.size + 1 ∧ ((i ≤ s.size ∧ f ≤ i ∧ splitD l = D ++ splitD (l.drop f) ∧ ∀ j, f ≤ j → j < i → l[j]? ≠ some 46) ∨ (i = s.size + 1 ∧ D = splitD l))) (fun _ _ vi _ => s.size + 1 - (intOf vi).toNat)
  case atStart => exact ⟨[], 0, 0, rfl, rfl, World.ownsRow_nil _ _ _ _, Below.refl _ _, Nat.le_refl _, by omega, Or.inl ⟨by omega, Nat.le_refl _, by simp, fun j _ h => by omega⟩⟩
  case round =>
    obtain ⟨D, f, i, rfl, rfl, hrow, hbl, hD, hf, hcase⟩ := hrel
    have hzz := hbl.size
    rcases hcase with ⟨hi1, hfi, hsp, hno⟩ | ⟨hi2, hDe⟩
    · have HSP : Hid (splitD l = D ++ splitD (l.drop f) ∧ ∀ j, f ≤ j → j < i → l[j]? ≠ some 46) := ⟨hsp, hno⟩
      clear hsp hno
      by_cases hlt : i < s.size
      · have hne : ((i : Int) == (s.size : Int)) = false := by simp; omega
        cases hz : ((s[i].toNat : Int) == 46) with
        | true =>
          have hc : l[i]? = some 46 := by
            rw [hl, get_data s i hlt]
            have : s[i] = 46 := UInt8.toNat_inj.1 (by have := eq_of_beq hz; have e46 : (46 : UInt8).toNat = 46 := rfl; omega)
            rw [this]
          obtain ⟨X, hX⟩ : ∃ X : ByteArray, X = ⟨(subT l f (i - f)).toArray⟩ := ⟨_, rfl⟩
          have HN : Hid (splitD l = (D ++ [subT l f (i - f)]) ++ splitD (l.drop (i + 1))) := split_dot l D f i hfi hc HSP.out.1 HSP.out.2
          have HX : Hid (strL (D ++ [subT l f (i - f)]) = strL D ++ [.string X]) := by
            show strL _ = _
            rw [hX]; simp [strL]
          have sl : ∀ wx, (Instr.slice 9 (.string s) (some (.int .i64 (f : Int))) (some (.int .i64 (i : Int))) none).run Tryd.prog wx = .ok (.string X) wx := fun wx => by rw [hX, hl]; exact run_sub s f i hfi (by omega) wx
          have HB : Hid (D.length ≤ i ∧ i < s.size) := ⟨hD, hlt⟩
          clear hX hc HSP hfi hl
          go_wp2_with (first | (at_builtin; refine wpList_append_own _ rfl _ _ 65 rfl w.heap.size 9 i0 (.string ⟨#[]⟩) 1 16 Tryd.underlying65 hi hz0 hz1 hzb rfl (by decide) _ _ _ rfl (hrow.alloc _) ⟨wr.heap.size, 0, none⟩ 1 1 [.string X] rfl rfl (cell_one_new _ _ _) (by simp [Value.oneCell']) (by unfold maxLen; omega) (by omega) (by simp; omega) ?_; intro v' w1 hown' hgrow _))
          have hb1 : Below w.heap.size w w1 := (hbl.alloc hzz _).grown hgrow (by simp; omega) (fun q hq => (hrow.lt q hq).1)
          have hB := HB.out
          refine ⟨⟨D ++ [subT l f (i - f)], i + 1, i + 1, rfl, rfl, by rw [HX.out]; simpa using hown', hb1, by simp; omega, by omega, Or.inl ⟨by omega, Nat.le_refl _, HN.out, fun j h1 h2 => by omega⟩⟩, ?_⟩
          simp [intOf]; omega
        | false =>
          have HN : Hid (l[i]? ≠ some 46) := by
            show l[i]? ≠ some 46
            rw [hl, get_data s i hlt]
            intro e
            have e' : s[i] = 46 := Option.some.inj e
            rw [e'] at hz
            exact absurd hz (by decide)
          have HF : Hid (f ≤ i ∧ D.length ≤ i ∧ f ≤ s.size + 1) := ⟨hfi, hD, hf⟩
          have HO : Hid (wr.ownsRow w.heap.size 9 1 u3 D.length (strL D)) := hrow
          have HB : Hid (Below w.heap.size w wr) := hbl
          clear hfi hD hf hrow hbl hl
          go_wp2
          go_roundw
          case rel =>
            have hF := HF.out
            refine ⟨D, f, i + 1, rfl, by go_num, HO.out, HB.out, by omega, hF.2.2, Or.inl ⟨by omega, by omega, HSP.out.1, fun j h1 h2 => ?_⟩⟩
            by_cases hj : j < i
            · exact HSP.out.2 j h1 hj
            · have : j = i := by omega
              rw [this]; exact HN.out
          case measure => simp [intOf]; omega
      · have hie : i = s.size := by omega
        subst hie
        have hne : ((s.size : Int) == (s.size : Int)) = true := by simp
        obtain ⟨X, hX⟩ : ∃ X : ByteArray, X = ⟨(subT l f (s.size - f)).toArray⟩ := ⟨_, rfl⟩
        have HN : Hid (splitD l = D ++ [subT l f (s.size - f)]) := by
          have := split_end l D f HSP.out.1 (fun j h1 h2 => HSP.out.2 j h1 (by omega))
          rw [hll] at this; exact this
        have HX : Hid (strL (D ++ [subT l f (s.size - f)]) = strL D ++ [.string X]) := by
          show strL _ = _
          rw [hX]; simp [strL]
        have sl : ∀ wx, (Instr.slice 9 (.string s) (some (.int .i64 (f : Int))) (some (.int .i64 (s.size : Int))) none).run Tryd.prog wx = .ok (.string X) wx := fun wx => by rw [hX, hl]; exact run_sub s f s.size hfi (by omega) wx
        clear hX HSP hfi hl
        go_wp2_with (first | (at_builtin; refine wpList_append_own _ rfl _ _ 65 rfl w.heap.size 9 i0 (.string ⟨#[]⟩) 1 16 Tryd.underlying65 hi hz0 hz1 hzb rfl (by decide) _ _ _ rfl (hrow.alloc _) ⟨wr.heap.size, 0, none⟩ 1 1 [.string X] rfl rfl (cell_one_new _ _ _) (by simp [Value.oneCell']) (by unfold maxLen; omega) (by omega) (by simp; omega) ?_; intro v' w1 hown' hgrow _))
        have hb1 : Below w.heap.size w w1 := (hbl.alloc hzz _).grown hgrow (by simp; omega) (fun q hq => (hrow.lt q hq).1)
        refine ⟨⟨D ++ [subT l f (s.size - f)], s.size + 1, s.size + 1, rfl, rfl, by rw [HX.out]; simpa using hown', hb1, by simp; omega, by omega, Or.inr ⟨rfl, HN.out.symm⟩⟩, ?_⟩
        simp [intOf]
    · have hgt : ¬ i ≤ s.size := by omega
      clear hi2 hll hs
      have HO : Hid (wr.ownsRow w.heap.size 9 1 u3 D.length (strL D)) := hrow
      have HB : Hid (Below w.heap.size w wr) := hbl
      have HDE : Hid (D = splitD l) := hDe
      clear hrow hbl hDe hD hf hzz hl
      go_wp2
      refine bodyPost_ret (results_tmp (t := 2) rfl _ _ _) rfl ⟨u3, rfl, ?_, HB.out⟩
      rw [← HDE.out]
      exact HO.out
end Go.Proofs.YtjbmgnnkbpgngaaDoor

/-
  What split answers, as a slice.
-/
namespace Go.Proofs.YtjbmgnnkbpgngaaDoor
open Go.RowKit
set_option linter.unusedVariables false

theorem below_drewN {B : Nat} {a w : World} (h : Below B a w) (n : Nat) : Below B a (w.drewN n) := ⟨h.os, h.tape, h.output, h.size, h.block⟩
theorem owns_slice {w : World} {base : Nat} {v : Value} {D : List (List UInt8)} (h : w.ownsRow base 9 1 v D.length (strL D)) (hne : D ≠ []) :
    ∃ g cap, v = .slice (some ⟨g, 0, none⟩) D.length cap ∧ base ≤ g ∧ g < w.heap.size ∧ ∀ j, (hj : j < D.length) → w.cell? ⟨g, j, none⟩ = some (.string ⟨D[j].toArray⟩) := by
  have hpos : 0 < D.length := List.length_pos_iff.2 hne
  rcases h.2 with ⟨_, hz⟩ | ⟨g, cap, cur, hv, hbg, hg, hnc, hcm, hcs, htake⟩
  · simp at hz; exact absurd hz hne
  · refine ⟨g, cap, hv, hbg, (Array.getElem?_eq_some_iff.1 hg).1, fun j hj => ?_⟩
    have ht : cur.toList.take D.length = strL D := by simpa using htake
    rw [Lib.cell_of_heap hg]
    have h1 : (strL D)[j]? = some (.string ⟨D[j].toArray⟩) := by unfold strL; rw [List.getElem?_map, List.getElem?_eq_getElem hj]; rfl
    rw [← ht, List.getElem?_take_of_lt hj] at h1
    simpa using h1

theorem split_slice (s : ByteArray) (w : World) (hs : s.size ≤ 1048576) :
    Calls Tryd.prog 30 #[.string s] w fun e w' => ∃ g cap, e = .returned (.slice (some ⟨g, 0, none⟩) (splitD s.data.toList).length cap) ∧ w.heap.size ≤ g ∧ g < w'.heap.size ∧ (∀ j, (hj : j < (splitD s.data.toList).length) → w'.cell? ⟨g, j, none⟩ = some (.string ⟨(splitD s.data.toList)[j].toArray⟩)) ∧ Below w.heap.size w w' := by
  refine (split_any s w hs).mono ?_
  rintro e w' ⟨v, rfl, hrow, hb⟩
  obtain ⟨g, cap, rfl, h1, h2, h3⟩ := owns_slice hrow (splitD_ne _)
  exact ⟨g, cap, rfl, h1, h2, h3, hb⟩

theorem part_len : ∀ (l : List UInt8) (p : List UInt8), p ∈ splitD l → p.length ≤ l.length
  | [], p, h => by simp [splitD] at h; rw [h]; exact Nat.le_refl _
  | c :: l, p, h => by
    rw [splitD_cons] at h
    split at h
    · rcases List.mem_cons.1 h with rfl | h
      · simp
      · have := part_len l p h; simp; omega
    · cases hs : splitD l with
      | nil => exact absurd hs (splitD_ne l)
      | cons q qs =>
        rw [hs] at h
        rcases List.mem_cons.1 h with rfl | h
        · have := part_len l q (by rw [hs]; simp); simp; omega
        · have := part_len l p (by rw [hs]; simp [h]); simp; omega

theorem split_len : ∀ (l : List UInt8), (splitD l).length ≤ l.length + 1
  | [] => by simp [splitD]
  | c :: l => by
    have ih := split_len l
    rw [splitD_cons]
    split
    · simp; exact ih
    · cases hs : splitD l with
      | nil => exact absurd hs (splitD_ne l)
      | cons q qs => rw [hs] at ih; simp at ih ⊢; omega

end Go.Proofs.YtjbmgnnkbpgngaaDoor

namespace Go.Proofs
open Go.Shelf
def Tryd.lays122_ren : Go.Shelf.Ren := ⟨fun | 122 => 28 | 215 => 37 | n => n, fun | 22 => 131 | 23 => 86 | 27 => 64 | 28 => 53 | 31 => 65 | 37 => 104 | 40 => 136 | 41 => 67 | 43 => 63 | 46 => 84 | 47 => 83 | 51 => 101 | 52 => 100 | 53 => 103 | 54 => 102 | 55 => 120 | 59 => 73 | 60 => 74 | 63 => 124 | 64 => 130 | 68 => 66 | 69 => 72 | 80 => 137 | 81 => 143 | 104 => 68 | 105 => 122 | 106 => 123 | 111 => 49 | 112 => 45 | 114 => 121 | 115 => 107 | 116 => 108 | 117 => 109 | 118 => 110 | 119 => 132 | 122 => 106 | 123 => 111 | 124 => 112 | 127 => 105 | 131 => 98 | 137 => 133 | 138 => 134 | 139 => 135 | 146 => 128 | 151 => 129 | 164 => 157 | 182 => 93 | 183 => 94 | 218 => 115 | 219 => 116 | 220 => 117 | 222 => 59 | 228 => 125 | 229 => 126 | 238 => 138 | 239 => 139 | 240 => 140 | 241 => 141 | 242 => 142 | 243 => 144 | 244 => 145 | 245 => 146 | 246 => 147 | 247 => 148 | 248 => 149 | 249 => 150 | n => n, fun | 1 => 0 | 3 => 1 | 4 => 2 | n => n⟩
set_option maxRecDepth 100000 in
theorem Tryd.lays122 : Go.Proofs.Lays.n122 Tryd.prog Tryd.lays122_ren := {
  mixed := by kernel_rfl
  f122 := Tryd.func28.trans (congrArg some (by kernel_rfl))
  f215 := Tryd.func37.trans (congrArg some (by kernel_rfl))
  t3 := Tryd.underlying3
  a3 := Tryd.isAgg3
  z3 := Tryd.sizeOf3
  v3 := Tryd.zeroValue3
  t4 := Tryd.underlying4
  a4 := Tryd.isAgg4
  z4 := Tryd.sizeOf4
  v4 := Tryd.zeroValue4 }
def Tryd.lays161_ren : Go.Shelf.Ren := ⟨fun | 119 => 90 | 137 => 89 | 151 => 81 | 152 => 87 | 161 => 47 | 197 => 80 | 217 => 75 | 224 => 77 | 225 => 76 | 227 => 63 | 228 => 79 | 231 => 62 | 233 => 64 | 235 => 65 | 260 => 86 | 266 => 84 | n => n, fun | 22 => 131 | 23 => 86 | 27 => 64 | 28 => 53 | 31 => 65 | 37 => 104 | 40 => 136 | 41 => 67 | 43 => 63 | 46 => 84 | 47 => 83 | 51 => 101 | 52 => 100 | 53 => 103 | 54 => 102 | 55 => 120 | 59 => 73 | 60 => 74 | 63 => 124 | 64 => 130 | 68 => 66 | 69 => 72 | 80 => 137 | 81 => 143 | 104 => 68 | 105 => 122 | 106 => 123 | 111 => 49 | 112 => 45 | 114 => 121 | 115 => 107 | 116 => 108 | 117 => 109 | 118 => 110 | 119 => 132 | 122 => 106 | 123 => 111 | 124 => 112 | 127 => 105 | 131 => 98 | 137 => 133 | 138 => 134 | 139 => 135 | 146 => 128 | 151 => 129 | 164 => 157 | 182 => 93 | 183 => 94 | 218 => 115 | 219 => 116 | 220 => 117 | 222 => 59 | 228 => 125 | 229 => 126 | 238 => 138 | 239 => 139 | 240 => 140 | 241 => 141 | 242 => 142 | 243 => 144 | 244 => 145 | 245 => 146 | 246 => 147 | 247 => 148 | 248 => 149 | 249 => 150 | n => n, fun | 1 => 0 | 3 => 1 | 4 => 2 | n => n⟩
set_option maxRecDepth 100000 in
theorem Tryd.lays161 : Go.Proofs.Lays.n161 Tryd.prog Tryd.lays161_ren := {
  mixed := by kernel_rfl
  f119 := Tryd.func90.trans (congrArg some (by kernel_rfl))
  f137 := Tryd.func89.trans (congrArg some (by kernel_rfl))
  f151 := Tryd.func81.trans (congrArg some (by kernel_rfl))
  f152 := Tryd.func87.trans (congrArg some (by kernel_rfl))
  f161 := Tryd.func47.trans (congrArg some (by kernel_rfl))
  f197 := Tryd.func80.trans (congrArg some (by kernel_rfl))
  f217 := Tryd.func75.trans (congrArg some (by kernel_rfl))
  f224 := Tryd.func77.trans (congrArg some (by kernel_rfl))
  f225 := Tryd.func76.trans (congrArg some (by kernel_rfl))
  f227 := Tryd.func63.trans (congrArg some (by kernel_rfl))
  f228 := Tryd.func79.trans (congrArg some (by kernel_rfl))
  f231 := Tryd.func62.trans (congrArg some (by kernel_rfl))
  f233 := Tryd.func64.trans (congrArg some (by kernel_rfl))
  f235 := Tryd.func65.trans (congrArg some (by kernel_rfl))
  f260 := Tryd.func86.trans (congrArg some (by kernel_rfl))
  f266 := Tryd.func84.trans (congrArg some (by kernel_rfl))
  t0 := Tryd.underlying0
  a0 := Tryd.isAgg0
  z0 := Tryd.sizeOf0
  v0 := Tryd.zeroValue0
  t3 := Tryd.underlying3
  a3 := Tryd.isAgg3
  z3 := Tryd.sizeOf3
  v3 := Tryd.zeroValue3
  t4 := Tryd.underlying4
  a4 := Tryd.isAgg4
  z4 := Tryd.sizeOf4
  v4 := Tryd.zeroValue4
  t5 := Tryd.underlying5
  a5 := Tryd.isAgg5
  z5 := Tryd.sizeOf5
  v5 := Tryd.zeroValue5
  t9 := Tryd.underlying9
  a9 := Tryd.isAgg9
  z9 := Tryd.sizeOf9
  v9 := Tryd.zeroValue9
  t21 := Tryd.underlying21
  a21 := Tryd.isAgg21
  z21 := Tryd.sizeOf21
  v21 := Tryd.zeroValue21
  t46 := Tryd.underlying84
  a46 := Tryd.isAgg84
  z46 := Tryd.sizeOf84
  v46 := Tryd.zeroValue84
  t105 := Tryd.underlying122
  a105 := Tryd.isAgg122
  z105 := Tryd.sizeOf122
  v105 := Tryd.zeroValue122
  t116 := Tryd.underlying108
  a116 := Tryd.isAgg108
  z116 := Tryd.sizeOf108
  t117 := Tryd.underlying109
  a117 := Tryd.isAgg109
  z117 := Tryd.sizeOf109
  v117 := Tryd.zeroValue109
  t119 := Tryd.underlying132
  a119 := Tryd.isAgg132
  z119 := Tryd.sizeOf132
  t124 := Tryd.underlying112
  a124 := Tryd.isAgg112
  z124 := Tryd.sizeOf112
  v124 := Tryd.zeroValue112
  t138 := Tryd.underlying134
  a138 := Tryd.isAgg134
  z138 := Tryd.sizeOf134
  v138 := Tryd.zeroValue134
  t139 := Tryd.underlying135
  a139 := Tryd.isAgg135
  z139 := Tryd.sizeOf135
  v139 := Tryd.zeroValue135
  g3 := by kernel_rfl
  g4 := by kernel_rfl }
def Tryd.lays219_ren : Go.Shelf.Ren := ⟨fun | 217 => 75 | 219 => 60 | 224 => 77 | 225 => 76 | 266 => 84 | 267 => 78 | 314 => 85 | n => n, fun | 22 => 131 | 23 => 86 | 27 => 64 | 28 => 53 | 31 => 65 | 37 => 104 | 40 => 136 | 41 => 67 | 43 => 63 | 46 => 84 | 47 => 83 | 51 => 101 | 52 => 100 | 53 => 103 | 54 => 102 | 55 => 120 | 59 => 73 | 60 => 74 | 63 => 124 | 64 => 130 | 68 => 66 | 69 => 72 | 80 => 137 | 81 => 143 | 104 => 68 | 105 => 122 | 106 => 123 | 111 => 49 | 112 => 45 | 114 => 121 | 115 => 107 | 116 => 108 | 117 => 109 | 118 => 110 | 119 => 132 | 122 => 106 | 123 => 111 | 124 => 112 | 127 => 105 | 131 => 98 | 137 => 133 | 138 => 134 | 139 => 135 | 146 => 128 | 151 => 129 | 164 => 157 | 182 => 93 | 183 => 94 | 218 => 115 | 219 => 116 | 220 => 117 | 222 => 59 | 228 => 125 | 229 => 126 | 238 => 138 | 239 => 139 | 240 => 140 | 241 => 141 | 242 => 142 | 243 => 144 | 244 => 145 | 245 => 146 | 246 => 147 | 247 => 148 | 248 => 149 | 249 => 150 | n => n, fun | 1 => 0 | 3 => 1 | 4 => 2 | n => n⟩
set_option maxRecDepth 100000 in
theorem Tryd.lays219 : Go.Proofs.Lays.n219 Tryd.prog Tryd.lays219_ren := {
  mixed := by kernel_rfl
  f217 := Tryd.func75.trans (congrArg some (by kernel_rfl))
  f219 := Tryd.func60.trans (congrArg some (by kernel_rfl))
  f224 := Tryd.func77.trans (congrArg some (by kernel_rfl))
  f225 := Tryd.func76.trans (congrArg some (by kernel_rfl))
  f266 := Tryd.func84.trans (congrArg some (by kernel_rfl))
  f267 := Tryd.func78.trans (congrArg some (by kernel_rfl))
  f314 := Tryd.func85.trans (congrArg some (by kernel_rfl))
  t3 := Tryd.underlying3
  a3 := Tryd.isAgg3
  z3 := Tryd.sizeOf3
  v3 := Tryd.zeroValue3
  t4 := Tryd.underlying4
  a4 := Tryd.isAgg4
  z4 := Tryd.sizeOf4
  v4 := Tryd.zeroValue4
  t5 := Tryd.underlying5
  a5 := Tryd.isAgg5
  z5 := Tryd.sizeOf5
  v5 := Tryd.zeroValue5
  t9 := Tryd.underlying9
  a9 := Tryd.isAgg9
  z9 := Tryd.sizeOf9
  v9 := Tryd.zeroValue9
  t46 := Tryd.underlying84
  a46 := Tryd.isAgg84
  z46 := Tryd.sizeOf84
  v46 := Tryd.zeroValue84
  t51 := Tryd.underlying101
  a51 := Tryd.isAgg101
  z51 := Tryd.sizeOf101
  v51 := Tryd.zeroValue101
  t146 := Tryd.underlying128
  a146 := Tryd.isAgg128
  z146 := Tryd.sizeOf128
  v146 := Tryd.zeroValue128
  g1 := by kernel_rfl }
end Go.Proofs
