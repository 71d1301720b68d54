import Derived.Test.YtkafaocbeankiaaGreatDoorM04
import Derived.Laws.AppendOwn
import Derived.Deep.RegionLaw
import Derived.Deep.AppendLies
import Derived.Shelf.Small.Wraps
import Derived.Shelf.Strings.Trim
import Derived.Shelf.Strings.Search2
import Derived.Test.YtkafaocbeankiaaGreatDoorProg
/-
  Digits and bytes of parts, by the document, walked.
-/
namespace Go.Proofs.YtkafaocbeankiaaGreatDoor
open Go.RowKit
set_option linter.unusedVariables false

set_option maxHeartbeats 400000 in
theorem rdigit_any (c : UInt8) (w : World) : Calls Tryz.prog 58 #[.int .u8 (c.toNat : Int)] w fun e w' => e = .returned (.bool (isD c)) ∧ w' = w := by
  go_enter Tryz.func58, Tryz.ntmps58
  go_wp2
  all_goals go_ret
  all_goals (refine ⟨ret_bool ?_, rfl⟩; rw [Bool.eq_iff_iff]; unfold isD; simp; omega)

set_option maxHeartbeats 400000 in
theorem rpartByte_any (c : UInt8) (w : World) : Calls Tryz.prog 42 #[.int .u8 (c.toNat : Int)] w fun e w' => e = .returned (.bool (isP c)) ∧ w' = w := by
  go_enter Tryz.func42, Tryz.ntmps42
  go_wp2_with (go_at_call 58; refine (rdigit_any _ _).mono ?_; rintro e w' ⟨rfl, rfl⟩)
  all_goals go_ret
  all_goals (refine ⟨ret_bool ?_, rfl⟩; rw [Bool.eq_iff_iff]; unfold isP; simp_all; try omega)

set_option maxHeartbeats 400000 in
theorem rdigits_any (s : ByteArray) (w : World) (hs : s.size < 2 ^ 62) :
    Calls Tryz.prog 43 #[.string s] w fun e w' => e = .returned (.bool (s.data.toList.all isD)) ∧ w' = w := by
  obtain ⟨R, hR⟩ : ∃ R, R = s.data.toList.all isD := ⟨_, rfl⟩
  have HR : Hid (R = s.data.toList.all isD) := hR
  rw [← hR]
  clear hR
  go_enter Tryz.func43, Tryz.ntmps43
  go_wp2
  go_loop [3] (fun i => ∃ k : Nat, k ≤ s.size ∧ i = .int .i64 k ∧ ∀ j, (hj : j < s.size) → j < k → isD s[j] = true) (fun i => s.size - (intOf i).toNat)
  case atStart => exact ⟨0, Nat.zero_le _, rfl, fun j hj h => absurd h (by omega)⟩
  case round =>
    obtain ⟨k, hk, rfl, hp⟩ := hrel
    have HP : Hid (∀ j, (hj : j < s.size) → j < k → isD s[j] = true) := hp
    clear hp
    by_cases hlt : k < s.size
    · cases hd : isD s[k] with
      | true =>
        go_wp2_with (go_at_call 58; refine (rdigit_any _ _).mono ?_; rintro e w' ⟨rfl, rfl⟩)
        go_round
        case rel =>
          refine ⟨k + 1, by omega, by go_num, fun j hj hjk => ?_⟩
          by_cases hjk' : j < k
          · exact HP.out j hj hjk'
          · have e : j = k := by omega
            subst e
            exact hd
        case measure => simp [intOf]; omega
      | false =>
        have HN : Hid (R = false) := by
          show R = false
          rw [HR.out, List.all_eq_false]
          exact ⟨s[k], List.mem_of_getElem? (get_data s k hlt), by simp [hd]⟩
        go_wp2_with (go_at_call 58; refine (rdigit_any _ _).mono ?_; rintro e w' ⟨rfl, rfl⟩)
        go_ret
        exact ⟨ret_bool HN.out.symm, rfl⟩
    · have HN : Hid (R = true) := by
        show R = true
        rw [HR.out, List.all_eq_true]
        intro c hc
        obtain ⟨j, hj, rfl⟩ := List.getElem_of_mem hc
        exact HP.out j (by simpa using hj) (by simp at hj; have : s.size = s.data.size := rfl; omega)
      clear hk
      go_wp2
      go_ret
      exact ⟨ret_bool HN.out.symm, rfl⟩

end Go.Proofs.YtkafaocbeankiaaGreatDoor

/-
  The document's small functions of versions, walked.
-/
namespace Go.Proofs.YtkafaocbeankiaaGreatDoor
open Go.RowKit
set_option linter.unusedVariables false

theorem info9 : (Tryz.prog.info? 9).map (fun i => (i.zero, i.size, i.bytes)) = some (some (.string ⟨#[]⟩), 1, 16) := by kernel_rfl
/-- texts as a slice holds them -/
def strL (D : List (List UInt8)) : List Value := D.map fun p => .string ⟨p.toArray⟩

theorem split_end (l : List UInt8) (D : List (List UInt8)) (f : Nat) (h : splitD l = D ++ splitD (l.drop f)) (hn : ∀ j, f ≤ j → j < l.length → l[j]? ≠ some 46) : splitD l = D ++ [subT l f (l.length - f)] := by
  rw [h, splitD_free (l.drop f)]
  · congr 2
    unfold subT
    exact (List.take_of_length_le (by simp)).symm
  · intro c hc e
    obtain ⟨j, hj, rfl⟩ := List.getElem_of_mem hc
    simp only [List.length_drop] at hj
    refine hn (f + j) (by omega) (by omega) ?_
    rw [← List.getElem?_drop, List.getElem?_eq_getElem (by simp; omega), e]
theorem split_dot (l : List UInt8) (D : List (List UInt8)) (f i : Nat) (hfi : f ≤ i) (hi : l[i]? = some 46) (h : splitD l = D ++ splitD (l.drop f)) (hn : ∀ j, f ≤ j → j < i → l[j]? ≠ some 46) : splitD l = (D ++ [subT l f (i - f)]) ++ splitD (l.drop (i + 1)) := by
  obtain ⟨hlt, e⟩ := List.getElem?_eq_some_iff.1 hi
  have hd : l.drop f = subT l f (i - f) ++ 46 :: l.drop (i + 1) := by
    have h1 : l.drop f = subT l f (i - f) ++ l.drop i := by
      unfold subT
      have := List.take_append_drop (i - f) (l.drop f)
      rw [List.drop_drop, show f + (i - f) = i by omega] at this
      exact this.symm
    rw [h1, List.drop_eq_getElem_cons hlt, e]
  rw [h, hd, splitD_dot]
  · simp
  · intro c hc e
    obtain ⟨j, hj, rfl⟩ := List.getElem_of_mem hc
    have hjl : j < i - f := by unfold subT at hj; simp at hj; omega
    refine hn (f + j) (by omega) (by omega) ?_
    have : (subT l f (i - f))[j]? = some 46 := by rw [List.getElem?_eq_getElem hj, e]
    unfold subT at this
    rw [List.getElem?_take_of_lt hjl, List.getElem?_drop] at this
    exact this

/-- what split answers -/
def SplitPost (l : List UInt8) (w : World) (e : Ending) (w' : World) : Prop := ∃ v, e = .returned v ∧ w'.ownsRow w.heap.size 9 1 v (splitD l).length (strL (splitD l)) ∧ Below w.heap.size w w'
set_option maxHeartbeats 800000 in
theorem split_any (s : ByteArray) (w : World) (hs : s.size ≤ 1048576) :
    Calls Tryz.prog 41 #[.string s] w (SplitPost s.data.toList w) := by
  obtain ⟨i0, hi, hz0, hz1, hzb⟩ := info_parts info9
  obtain ⟨l, hl⟩ : ∃ l, l = s.data.toList := ⟨_, rfl⟩
  have hll : l.length = s.size := by rw [hl]; simp
  rw [← hl]
  go_enter Tryz.func41, Tryz.ntmps41
  go_wp2
  go_loopw [3, 4, 5] (fun vo vf vi wr => ∃ (D : List (List UInt8)) (f i : Nat), vf = .int .i64 f ∧ vi = .int .i64 i ∧ wr.ownsRow w.heap.size 9 1 vo D.length (strL D) ∧ Below w.heap.size w wr ∧ D.length ≤ i ∧ f ≤ s.size + 1 ∧ ((i ≤ s.size ∧ f ≤ i ∧ splitD l = D ++ splitD (l.drop f) ∧ ∀ j, f ≤ j → j < i → l[j]? ≠ some 46) ∨ (i = s.size + 1 ∧ D = splitD l))) (fun _ _ vi _ => s.size + 1 - (intOf vi).toNat)
  case atStart => exact ⟨[], 0, 0, rfl, rfl, World.ownsRow_nil _ _ _ _, Below.refl _ _, Nat.le_refl _, by omega, Or.inl ⟨by omega, Nat.le_refl _, by simp, fun j _ h => by omega⟩⟩
  case round =>
    obtain ⟨D, f, i, rfl, rfl, hrow, hbl, hD, hf, hcase⟩ := hrel
    have hzz := hbl.size
    rcases hcase with ⟨hi1, hfi, hsp, hno⟩ | ⟨hi2, hDe⟩
    · have HSP : Hid (splitD l = D ++ splitD (l.drop f) ∧ ∀ j, f ≤ j → j < i → l[j]? ≠ some 46) := ⟨hsp, hno⟩
      clear hsp hno
      by_cases hlt : i < s.size
      · have hne : ((i : Int) == (s.size : Int)) = false := by simp; omega
        cases hz : ((s[i].toNat : Int) == 46) with
        | true =>
          have hc : l[i]? = some 46 := by
            rw [hl, get_data s i hlt]
            have : s[i] = 46 := UInt8.toNat_inj.1 (by have := eq_of_beq hz; have e46 : (46 : UInt8).toNat = 46 := rfl; omega)
            rw [this]
          obtain ⟨X, hX⟩ : ∃ X : ByteArray, X = ⟨(subT l f (i - f)).toArray⟩ := ⟨_, rfl⟩
          have HN : Hid (splitD l = (D ++ [subT l f (i - f)]) ++ splitD (l.drop (i + 1))) := split_dot l D f i hfi hc HSP.out.1 HSP.out.2
          have HX : Hid (strL (D ++ [subT l f (i - f)]) = strL D ++ [.string X]) := by
            show strL _ = _
            rw [hX]; simp [strL]
          have sl : ∀ wx, (Instr.slice 9 (.string s) (some (.int .i64 (f : Int))) (some (.int .i64 (i : Int))) none).run Tryz.prog wx = .ok (.string X) wx := fun wx => by rw [hX, hl]; exact run_sub s f i hfi (by omega) wx
          have HB : Hid (D.length ≤ i ∧ i < s.size) := ⟨hD, hlt⟩
          clear hX hc HSP hfi hl
          go_wp2_with (first | (at_builtin; refine wpList_append_own _ rfl _ _ 37 rfl w.heap.size 9 i0 (.string ⟨#[]⟩) 1 16 Tryz.underlying37 hi hz0 hz1 hzb rfl (by decide) _ _ _ rfl (hrow.alloc _) ⟨wr.heap.size, 0, none⟩ 1 1 [.string X] rfl rfl (cell_one_new _ _ _) (by simp [Value.oneCell']) (by unfold maxLen; omega) (by omega) (by simp; omega) ?_; intro v' w1 hown' hgrow _))
          have hb1 : Below w.heap.size w w1 := (hbl.alloc hzz _).grown hgrow (by simp; omega) (fun q hq => (hrow.lt q hq).1)
          have hB := HB.out
          refine ⟨⟨D ++ [subT l f (i - f)], i + 1, i + 1, rfl, rfl, by rw [HX.out]; simpa using hown', hb1, by simp; omega, by omega, Or.inl ⟨by omega, Nat.le_refl _, HN.out, fun j h1 h2 => by omega⟩⟩, ?_⟩
          simp [intOf]; omega
        | false =>
          have HN : Hid (l[i]? ≠ some 46) := by
            show l[i]? ≠ some 46
            rw [hl, get_data s i hlt]
            intro e
            have e' : s[i] = 46 := Option.some.inj e
            rw [e'] at hz
            exact absurd hz (by decide)
          have HF : Hid (f ≤ i ∧ D.length ≤ i ∧ f ≤ s.size + 1) := ⟨hfi, hD, hf⟩
          have HO : Hid (wr.ownsRow w.heap.size 9 1 u3 D.length (strL D)) := hrow
          have HB : Hid (Below w.heap.size w wr) := hbl
          clear hfi hD hf hrow hbl hl
          go_wp2
          go_roundw
          case rel =>
            have hF := HF.out
            refine ⟨D, f, i + 1, rfl, by go_num, HO.out, HB.out, by omega, hF.2.2, Or.inl ⟨by omega, by omega, HSP.out.1, fun j h1 h2 => ?_⟩⟩
            by_cases hj : j < i
            · exact HSP.out.2 j h1 hj
            · have : j = i := by omega
              rw [this]; exact HN.out
          case measure => simp [intOf]; omega
      · have hie : i = s.size := by omega
        subst hie
        have hne : ((s.size : Int) == (s.size : Int)) = true := by simp
        obtain ⟨X, hX⟩ : ∃ X : ByteArray, X = ⟨(subT l f (s.size - f)).toArray⟩ := ⟨_, rfl⟩
        have HN : Hid (splitD l = D ++ [subT l f (s.size - f)]) := by
          have := split_end l D f HSP.out.1 (fun j h1 h2 => HSP.out.2 j h1 (by omega))
          rw [hll] at this; exact this
        have HX : Hid (strL (D ++ [subT l f (s.size - f)]) = strL D ++ [.string X]) := by
          show strL _ = _
          rw [hX]; simp [strL]
        have sl : ∀ wx, (Instr.slice 9 (.string s) (some (.int .i64 (f : Int))) (some (.int .i64 (s.size : Int))) none).run Tryz.prog wx = .ok (.string X) wx := fun wx => by rw [hX, hl]; exact run_sub s f s.size hfi (by omega) wx
        clear hX HSP hfi hl
        go_wp2_with (first | (at_builtin; refine wpList_append_own _ rfl _ _ 37 rfl w.heap.size 9 i0 (.string ⟨#[]⟩) 1 16 Tryz.underlying37 hi hz0 hz1 hzb rfl (by decide) _ _ _ rfl (hrow.alloc _) ⟨wr.heap.size, 0, none⟩ 1 1 [.string X] rfl rfl (cell_one_new _ _ _) (by simp [Value.oneCell']) (by unfold maxLen; omega) (by omega) (by simp; omega) ?_; intro v' w1 hown' hgrow _))
        have hb1 : Below w.heap.size w w1 := (hbl.alloc hzz _).grown hgrow (by simp; omega) (fun q hq => (hrow.lt q hq).1)
        refine ⟨⟨D ++ [subT l f (s.size - f)], s.size + 1, s.size + 1, rfl, rfl, by rw [HX.out]; simpa using hown', hb1, by simp; omega, by omega, Or.inr ⟨rfl, HN.out.symm⟩⟩, ?_⟩
        simp [intOf]
    · have hgt : ¬ i ≤ s.size := by omega
      clear hi2 hll hs
      have HO : Hid (wr.ownsRow w.heap.size 9 1 u3 D.length (strL D)) := hrow
      have HB : Hid (Below w.heap.size w wr) := hbl
      have HDE : Hid (D = splitD l) := hDe
      clear hrow hbl hDe hD hf hzz hl
      go_wp2
      refine bodyPost_ret (results_tmp (t := 2) rfl _ _ _) rfl ⟨u3, rfl, ?_, HB.out⟩
      rw [← HDE.out]
      exact HO.out
end Go.Proofs.YtkafaocbeankiaaGreatDoor

namespace Go.Proofs
open Go.Shelf
def Tryz.lays122_ren : Go.Shelf.Ren := ⟨fun | 122 => 52 | 215 => 64 | n => n, fun | 22 => 163 | 23 => 134 | 27 => 71 | 28 => 75 | 31 => 37 | 37 => 54 | 40 => 171 | 41 => 87 | 43 => 70 | 46 => 106 | 47 => 105 | 51 => 132 | 52 => 131 | 53 => 114 | 54 => 115 | 55 => 157 | 59 => 107 | 60 => 108 | 63 => 160 | 64 => 166 | 67 => 41 | 68 => 86 | 69 => 96 | 70 => 53 | 71 => 55 | 72 => 56 | 73 => 57 | 74 => 58 | 75 => 59 | 76 => 60 | 77 => 61 | 80 => 62 | 81 => 177 | 83 => 52 | 84 => 97 | 104 => 88 | 105 => 158 | 106 => 159 | 111 => 63 | 112 => 51 | 114 => 136 | 115 => 148 | 116 => 149 | 117 => 150 | 118 => 151 | 119 => 167 | 122 => 147 | 123 => 152 | 124 => 153 | 127 => 85 | 131 => 129 | 137 => 168 | 138 => 169 | 139 => 170 | 146 => 164 | 151 => 165 | 164 => 98 | 165 => 99 | 166 => 100 | 171 => 113 | 172 => 116 | 173 => 117 | 174 => 118 | 182 => 124 | 183 => 125 | 211 => 137 | 212 => 138 | 213 => 139 | 218 => 142 | 219 => 143 | 220 => 144 | 222 => 81 | 228 => 154 | 229 => 155 | 232 => 161 | 233 => 162 | 238 => 172 | 239 => 173 | 240 => 174 | 241 => 175 | 242 => 176 | 243 => 178 | 244 => 179 | 245 => 180 | 246 => 181 | 247 => 182 | 248 => 183 | 249 => 184 | n => n, fun | 1 => 0 | 3 => 4 | 4 => 5 | 17 => 1 | 18 => 2 | 19 => 3 | n => n⟩
set_option maxRecDepth 100000 in
theorem Tryz.lays122 : Go.Proofs.Lays.n122 Tryz.prog Tryz.lays122_ren := {
  mixed := by kernel_rfl
  f122 := Tryz.func52.trans (congrArg some (by kernel_rfl))
  f215 := Tryz.func64.trans (congrArg some (by kernel_rfl))
  t3 := Tryz.underlying3
  a3 := Tryz.isAgg3
  z3 := Tryz.sizeOf3
  v3 := Tryz.zeroValue3
  t4 := Tryz.underlying4
  a4 := Tryz.isAgg4
  z4 := Tryz.sizeOf4
  v4 := Tryz.zeroValue4 }
def Tryz.lays161_ren : Go.Shelf.Ren := ⟨fun | 119 => 124 | 137 => 123 | 151 => 116 | 152 => 121 | 161 => 86 | 197 => 115 | 217 => 110 | 224 => 112 | 225 => 111 | 227 => 103 | 228 => 114 | 231 => 102 | 233 => 104 | 235 => 105 | 260 => 120 | 266 => 118 | n => n, fun | 22 => 163 | 23 => 134 | 27 => 71 | 28 => 75 | 31 => 37 | 37 => 54 | 40 => 171 | 41 => 87 | 43 => 70 | 46 => 106 | 47 => 105 | 51 => 132 | 52 => 131 | 53 => 114 | 54 => 115 | 55 => 157 | 59 => 107 | 60 => 108 | 63 => 160 | 64 => 166 | 67 => 41 | 68 => 86 | 69 => 96 | 70 => 53 | 71 => 55 | 72 => 56 | 73 => 57 | 74 => 58 | 75 => 59 | 76 => 60 | 77 => 61 | 80 => 62 | 81 => 177 | 83 => 52 | 84 => 97 | 104 => 88 | 105 => 158 | 106 => 159 | 111 => 63 | 112 => 51 | 114 => 136 | 115 => 148 | 116 => 149 | 117 => 150 | 118 => 151 | 119 => 167 | 122 => 147 | 123 => 152 | 124 => 153 | 127 => 85 | 131 => 129 | 137 => 168 | 138 => 169 | 139 => 170 | 146 => 164 | 151 => 165 | 164 => 98 | 165 => 99 | 166 => 100 | 171 => 113 | 172 => 116 | 173 => 117 | 174 => 118 | 182 => 124 | 183 => 125 | 211 => 137 | 212 => 138 | 213 => 139 | 218 => 142 | 219 => 143 | 220 => 144 | 222 => 81 | 228 => 154 | 229 => 155 | 232 => 161 | 233 => 162 | 238 => 172 | 239 => 173 | 240 => 174 | 241 => 175 | 242 => 176 | 243 => 178 | 244 => 179 | 245 => 180 | 246 => 181 | 247 => 182 | 248 => 183 | 249 => 184 | n => n, fun | 1 => 0 | 3 => 4 | 4 => 5 | 17 => 1 | 18 => 2 | 19 => 3 | n => n⟩
set_option maxRecDepth 100000 in
theorem Tryz.lays161 : Go.Proofs.Lays.n161 Tryz.prog Tryz.lays161_ren := {
  mixed := by kernel_rfl
  f119 := Tryz.func124.trans (congrArg some (by kernel_rfl))
  f137 := Tryz.func123.trans (congrArg some (by kernel_rfl))
  f151 := Tryz.func116.trans (congrArg some (by kernel_rfl))
  f152 := Tryz.func121.trans (congrArg some (by kernel_rfl))
  f161 := Tryz.func86.trans (congrArg some (by kernel_rfl))
  f197 := Tryz.func115.trans (congrArg some (by kernel_rfl))
  f217 := Tryz.func110.trans (congrArg some (by kernel_rfl))
  f224 := Tryz.func112.trans (congrArg some (by kernel_rfl))
  f225 := Tryz.func111.trans (congrArg some (by kernel_rfl))
  f227 := Tryz.func103.trans (congrArg some (by kernel_rfl))
  f228 := Tryz.func114.trans (congrArg some (by kernel_rfl))
  f231 := Tryz.func102.trans (congrArg some (by kernel_rfl))
  f233 := Tryz.func104.trans (congrArg some (by kernel_rfl))
  f235 := Tryz.func105.trans (congrArg some (by kernel_rfl))
  f260 := Tryz.func120.trans (congrArg some (by kernel_rfl))
  f266 := Tryz.func118.trans (congrArg some (by kernel_rfl))
  t0 := Tryz.underlying0
  a0 := Tryz.isAgg0
  z0 := Tryz.sizeOf0
  v0 := Tryz.zeroValue0
  t3 := Tryz.underlying3
  a3 := Tryz.isAgg3
  z3 := Tryz.sizeOf3
  v3 := Tryz.zeroValue3
  t4 := Tryz.underlying4
  a4 := Tryz.isAgg4
  z4 := Tryz.sizeOf4
  v4 := Tryz.zeroValue4
  t5 := Tryz.underlying5
  a5 := Tryz.isAgg5
  z5 := Tryz.sizeOf5
  v5 := Tryz.zeroValue5
  t9 := Tryz.underlying9
  a9 := Tryz.isAgg9
  z9 := Tryz.sizeOf9
  v9 := Tryz.zeroValue9
  t21 := Tryz.underlying21
  a21 := Tryz.isAgg21
  z21 := Tryz.sizeOf21
  v21 := Tryz.zeroValue21
  t46 := Tryz.underlying106
  a46 := Tryz.isAgg106
  z46 := Tryz.sizeOf106
  v46 := Tryz.zeroValue106
  t105 := Tryz.underlying158
  a105 := Tryz.isAgg158
  z105 := Tryz.sizeOf158
  v105 := Tryz.zeroValue158
  t116 := Tryz.underlying149
  a116 := Tryz.isAgg149
  z116 := Tryz.sizeOf149
  t117 := Tryz.underlying150
  a117 := Tryz.isAgg150
  z117 := Tryz.sizeOf150
  v117 := Tryz.zeroValue150
  t119 := Tryz.underlying167
  a119 := Tryz.isAgg167
  z119 := Tryz.sizeOf167
  t124 := Tryz.underlying153
  a124 := Tryz.isAgg153
  z124 := Tryz.sizeOf153
  v124 := Tryz.zeroValue153
  t138 := Tryz.underlying169
  a138 := Tryz.isAgg169
  z138 := Tryz.sizeOf169
  v138 := Tryz.zeroValue169
  t139 := Tryz.underlying170
  a139 := Tryz.isAgg170
  z139 := Tryz.sizeOf170
  v139 := Tryz.zeroValue170
  g3 := by kernel_rfl
  g4 := by kernel_rfl }
def Tryz.lays219_ren : Go.Shelf.Ren := ⟨fun | 217 => 110 | 219 => 100 | 224 => 112 | 225 => 111 | 266 => 118 | 267 => 113 | 314 => 119 | n => n, fun | 22 => 163 | 23 => 134 | 27 => 71 | 28 => 75 | 31 => 37 | 37 => 54 | 40 => 171 | 41 => 87 | 43 => 70 | 46 => 106 | 47 => 105 | 51 => 132 | 52 => 131 | 53 => 114 | 54 => 115 | 55 => 157 | 59 => 107 | 60 => 108 | 63 => 160 | 64 => 166 | 67 => 41 | 68 => 86 | 69 => 96 | 70 => 53 | 71 => 55 | 72 => 56 | 73 => 57 | 74 => 58 | 75 => 59 | 76 => 60 | 77 => 61 | 80 => 62 | 81 => 177 | 83 => 52 | 84 => 97 | 104 => 88 | 105 => 158 | 106 => 159 | 111 => 63 | 112 => 51 | 114 => 136 | 115 => 148 | 116 => 149 | 117 => 150 | 118 => 151 | 119 => 167 | 122 => 147 | 123 => 152 | 124 => 153 | 127 => 85 | 131 => 129 | 137 => 168 | 138 => 169 | 139 => 170 | 146 => 164 | 151 => 165 | 164 => 98 | 165 => 99 | 166 => 100 | 171 => 113 | 172 => 116 | 173 => 117 | 174 => 118 | 182 => 124 | 183 => 125 | 211 => 137 | 212 => 138 | 213 => 139 | 218 => 142 | 219 => 143 | 220 => 144 | 222 => 81 | 228 => 154 | 229 => 155 | 232 => 161 | 233 => 162 | 238 => 172 | 239 => 173 | 240 => 174 | 241 => 175 | 242 => 176 | 243 => 178 | 244 => 179 | 245 => 180 | 246 => 181 | 247 => 182 | 248 => 183 | 249 => 184 | n => n, fun | 1 => 0 | 3 => 4 | 4 => 5 | 17 => 1 | 18 => 2 | 19 => 3 | n => n⟩
set_option maxRecDepth 100000 in
theorem Tryz.lays219 : Go.Proofs.Lays.n219 Tryz.prog Tryz.lays219_ren := {
  mixed := by kernel_rfl
  f217 := Tryz.func110.trans (congrArg some (by kernel_rfl))
  f219 := Tryz.func100.trans (congrArg some (by kernel_rfl))
  f224 := Tryz.func112.trans (congrArg some (by kernel_rfl))
  f225 := Tryz.func111.trans (congrArg some (by kernel_rfl))
  f266 := Tryz.func118.trans (congrArg some (by kernel_rfl))
  f267 := Tryz.func113.trans (congrArg some (by kernel_rfl))
  f314 := Tryz.func119.trans (congrArg some (by kernel_rfl))
  t3 := Tryz.underlying3
  a3 := Tryz.isAgg3
  z3 := Tryz.sizeOf3
  v3 := Tryz.zeroValue3
  t4 := Tryz.underlying4
  a4 := Tryz.isAgg4
  z4 := Tryz.sizeOf4
  v4 := Tryz.zeroValue4
  t5 := Tryz.underlying5
  a5 := Tryz.isAgg5
  z5 := Tryz.sizeOf5
  v5 := Tryz.zeroValue5
  t9 := Tryz.underlying9
  a9 := Tryz.isAgg9
  z9 := Tryz.sizeOf9
  v9 := Tryz.zeroValue9
  t46 := Tryz.underlying106
  a46 := Tryz.isAgg106
  z46 := Tryz.sizeOf106
  v46 := Tryz.zeroValue106
  t51 := Tryz.underlying132
  a51 := Tryz.isAgg132
  z51 := Tryz.sizeOf132
  v51 := Tryz.zeroValue132
  t146 := Tryz.underlying164
  a146 := Tryz.isAgg164
  z146 := Tryz.sizeOf164
  v146 := Tryz.zeroValue164
  g1 := by kernel_rfl }
end Go.Proofs
