import Derived.Shelf.Strconv.Clone
import Derived.Test.YtjbmgnnkbpgngaaDoorProg
import Derived.Test.YtjbmgnnkbpgngaaDoorM04
namespace Go.Proofs
open Go.Shelf
def Tryd.lays316_ren : Go.Shelf.Ren := ⟨fun | 316 => 44 | n => n, fun | 22 => 131 | 23 => 86 | 27 => 64 | 28 => 53 | 31 => 65 | 37 => 104 | 40 => 136 | 41 => 67 | 43 => 63 | 46 => 84 | 47 => 83 | 51 => 101 | 52 => 100 | 53 => 103 | 54 => 102 | 55 => 120 | 59 => 73 | 60 => 74 | 63 => 124 | 64 => 130 | 68 => 66 | 69 => 72 | 80 => 137 | 81 => 143 | 104 => 68 | 105 => 122 | 106 => 123 | 111 => 49 | 112 => 45 | 114 => 121 | 115 => 107 | 116 => 108 | 117 => 109 | 118 => 110 | 119 => 132 | 122 => 106 | 123 => 111 | 124 => 112 | 127 => 105 | 131 => 98 | 137 => 133 | 138 => 134 | 139 => 135 | 146 => 128 | 151 => 129 | 164 => 157 | 182 => 93 | 183 => 94 | 218 => 115 | 219 => 116 | 220 => 117 | 222 => 59 | 228 => 125 | 229 => 126 | 238 => 138 | 239 => 139 | 240 => 140 | 241 => 141 | 242 => 142 | 243 => 144 | 244 => 145 | 245 => 146 | 246 => 147 | 247 => 148 | 248 => 149 | 249 => 150 | n => n, fun | 1 => 0 | 3 => 1 | 4 => 2 | n => n⟩
set_option maxRecDepth 100000 in
theorem Tryd.lays316 : Go.Proofs.LaysM.n316 Tryd.prog Tryd.lays316_ren := {
  mixed := by kernel_rfl
  f316 := Tryd.func44.trans (congrArg some (by kernel_rfl))
  t0 := Tryd.underlying0
  a0 := Tryd.isAgg0
  z0 := Tryd.sizeOf0
  v0 := Tryd.zeroValue0
  t3 := Tryd.underlying3
  a3 := Tryd.isAgg3
  z3 := Tryd.sizeOf3
  v3 := Tryd.zeroValue3
  t4 := Tryd.underlying4
  a4 := Tryd.isAgg4
  z4 := Tryd.sizeOf4
  v4 := Tryd.zeroValue4
  t9 := Tryd.underlying9
  a9 := Tryd.isAgg9
  z9 := Tryd.sizeOf9
  v9 := Tryd.zeroValue9
  t37 := Tryd.underlying104
  a37 := Tryd.isAgg104
  z37 := Tryd.sizeOf104
  v37 := Tryd.zeroValue104
  t127 := Tryd.underlying105
  a127 := Tryd.isAgg105
  z127 := Tryd.sizeOf105
  v127 := Tryd.zeroValue105
  t5 := Tryd.underlying5
  a5 := Tryd.isAgg5
  z5 := Tryd.sizeOf5
  v5 := Tryd.zeroValue5
  i0 := by kernel_rfl
  i3 := by kernel_rfl
  i4 := by kernel_rfl
  i5 := by kernel_rfl
  i9 := by kernel_rfl
  i37 := by kernel_rfl
  i127 := by kernel_rfl }
end Go.Proofs

/-
  strings.Clone, by its contract.
-/
namespace Go.Proofs.YtjbmgnnkbpgngaaDoor
open Go.RowKit Go.Shelf
set_option linter.unusedVariables false

theorem cloneL_any (s : ByteArray) (w : World) (hlim : s.size ≤ 281474976710656) :
    Calls Tryd.prog 44 #[.string s] w fun e w' => e = .returned (.string s) ∧ Below w.heap.size w w' := Any.stringslite_Clone Tryd.lays316 s w hlim
set_option maxHeartbeats 400000 in
theorem clone_any (s : ByteArray) (w : World) (hlim : s.size ≤ 281474976710656) :
    Calls Tryd.prog 36 #[.string s] w fun e w' => e = .returned (.string s) ∧ w.grownBy w' none := by
  have C : Hid (∀ w, Calls Tryd.prog 44 #[.string s] w fun e w' => e = .returned (.string s) ∧ Below w.heap.size w w') := fun w => cloneL_any s w hlim
  clear hlim
  go_enter Tryd.func36, Tryd.ntmps36
  go_wp2_with (first | (go_at_call 44; refine (C.out _).mono ?_; rintro e w1 ⟨rfl, hb⟩))
  go_ret
  exact ⟨rfl, ⟨hb.os, hb.tape, hb.output, hb.size, fun k hk _ => hb.block k hk⟩⟩

end Go.Proofs.YtjbmgnnkbpgngaaDoor

/-
  A version in a block; vers, walked.
-/
namespace Go.Proofs.YtjbmgnnkbpgngaaDoor
open Go.RowKit
set_option linter.unusedVariables false

set_option maxHeartbeats 400000 in
theorem vers_any (a1 a2 a3 : Int) (a4 a5 : ByteArray) (w : World) : Calls Tryd.prog 12 #[.agg #[.int .i64 a1, .int .i64 a2, .int .i64 a3, .string a4, .string a5]] w fun e w' => e = .returned (.agg #[.int .i64 a1, .int .i64 a2, .int .i64 a3, .string a4, .string a5]) ∧ w.grownBy w' none := by
  go_enter Tryd.func12, Tryd.ntmps12
  go_wp2
  refine bodyPost_ret (results_cell_row rfl _ _ (w.heap.size + 1) 34 #[.int .i64 a1, .int .i64 a2, .int .i64 a3, .string a4, .string a5] (0, 0) _ rfl ?_ Tryd.underlying34 rfl (by kernel_rfl)) rfl ⟨rfl, gb_alloc (gb_alloc (gb_refl w none) _) _⟩
  have := heap_alloc_new (w.alloc (.cells #[.int .i64 a1, .int .i64 a2, .int .i64 a3, .string a4, .string a5] 24)) (.cells #[.int .i64 a1, .int .i64 a2, .int .i64 a3, .string a4, .string a5] 34)
  rw [show (w.alloc (.cells #[.int .i64 a1, .int .i64 a2, .int .i64 a3, .string a4, .string a5] 24)).heap.size = w.heap.size + 1 by simp] at this
  exact this

/-- a version lies at block A -/
def St (A : Nat) (a1 a2 a3 : Int) (a4 a5 : ByteArray) (w : World) : Prop := w.cell? ⟨A, 0, none⟩ = some (.int .i64 a1) ∧ w.cell? ⟨A, 1, none⟩ = some (.int .i64 a2) ∧ w.cell? ⟨A, 2, none⟩ = some (.int .i64 a3) ∧ w.cell? ⟨A, 3, none⟩ = some (.string a4) ∧ w.cell? ⟨A, 4, none⟩ = some (.string a5)
theorem St.grow {A : Nat} {a1 a2 a3 : Int} {a4 a5 : ByteArray} {w w' : World} (h : St A a1 a2 a3 a4 a5 w) (hg : w.grownBy w' none) : St A a1 a2 a3 a4 a5 w' :=
  ⟨hg.cell h.1 (by simp), hg.cell h.2.1 (by simp), hg.cell h.2.2.1 (by simp), hg.cell h.2.2.2.1 (by simp), hg.cell h.2.2.2.2 (by simp)⟩
theorem st_row {A t : Nat} {a1 a2 a3 : Int} {a4 a5 : ByteArray} {w : World} (h : w.heap[A]? = some (.cells #[.int .i64 a1, .int .i64 a2, .int .i64 a3, .string a4, .string a5] t (0, 0))) : St A a1 a2 a3 a4 a5 w :=
  ⟨by rw [Lib.cell_of_heap h]; rfl, by rw [Lib.cell_of_heap h]; rfl, by rw [Lib.cell_of_heap h]; rfl, by rw [Lib.cell_of_heap h]; rfl, by rw [Lib.cell_of_heap h]; rfl⟩
theorem keep2 {A B : Nat} {a1 a2 a3 b1 b2 b3 : Int} {a4 a5 b4 b5 : ByteArray} {w w' : World} (hg : w.grownBy w' none) (h : w.cell? ⟨A, 0, none⟩ = some (.int .i64 a1) ∧ w.cell? ⟨A, 1, none⟩ = some (.int .i64 a2) ∧ w.cell? ⟨A, 2, none⟩ = some (.int .i64 a3) ∧ w.cell? ⟨A, 3, none⟩ = some (.string a4) ∧ w.cell? ⟨A, 4, none⟩ = some (.string a5) ∧ w.cell? ⟨B, 0, none⟩ = some (.int .i64 b1) ∧ w.cell? ⟨B, 1, none⟩ = some (.int .i64 b2) ∧ w.cell? ⟨B, 2, none⟩ = some (.int .i64 b3) ∧ w.cell? ⟨B, 3, none⟩ = some (.string b4) ∧ w.cell? ⟨B, 4, none⟩ = some (.string b5)) : w'.cell? ⟨A, 0, none⟩ = some (.int .i64 a1) ∧ w'.cell? ⟨A, 1, none⟩ = some (.int .i64 a2) ∧ w'.cell? ⟨A, 2, none⟩ = some (.int .i64 a3) ∧ w'.cell? ⟨A, 3, none⟩ = some (.string a4) ∧ w'.cell? ⟨A, 4, none⟩ = some (.string a5) ∧ w'.cell? ⟨B, 0, none⟩ = some (.int .i64 b1) ∧ w'.cell? ⟨B, 1, none⟩ = some (.int .i64 b2) ∧ w'.cell? ⟨B, 2, none⟩ = some (.int .i64 b3) ∧ w'.cell? ⟨B, 3, none⟩ = some (.string b4) ∧ w'.cell? ⟨B, 4, none⟩ = some (.string b5) := by
  obtain ⟨h1, h2, h3, h4, h5, h6, h7, h8, h9, h10⟩ := h
  exact ⟨hg.cell h1 (by simp), hg.cell h2 (by simp), hg.cell h3 (by simp), hg.cell h4 (by simp), hg.cell h5 (by simp), hg.cell h6 (by simp), hg.cell h7 (by simp), hg.cell h8 (by simp), hg.cell h9 (by simp), hg.cell h10 (by simp)⟩

end Go.Proofs.YtjbmgnnkbpgngaaDoor

/-
  A version's block, written and read.
-/
namespace Go.Proofs.YtjbmgnnkbpgngaaDoor
open Go.RowKit
set_option linter.unusedVariables false

def VX (v : Nat) (y1 y2 y3 : Int) (x4 x5 : ByteArray) (w : World) : Prop := w.heap[v]? = some (.cells #[.int .i64 y1, .int .i64 y2, .int .i64 y3, .string x4, .string x5] 34 (0, 0))
theorem VX.cells {v : Nat} {y1 y2 y3 : Int} {x4 x5 : ByteArray} {w : World} (h : VX v y1 y2 y3 x4 x5 w) : w.cell? ⟨v, 0, none⟩ = some (.int .i64 y1) ∧ w.cell? ⟨v, 1, none⟩ = some (.int .i64 y2) ∧ w.cell? ⟨v, 2, none⟩ = some (.int .i64 y3) ∧ w.cell? ⟨v, 3, none⟩ = some (.string x4) ∧ w.cell? ⟨v, 4, none⟩ = some (.string x5) :=
  ⟨by rw [Lib.cell_of_heap h]; rfl, by rw [Lib.cell_of_heap h]; rfl, by rw [Lib.cell_of_heap h]; rfl, by rw [Lib.cell_of_heap h]; rfl, by rw [Lib.cell_of_heap h]; rfl⟩
theorem VX.f {v : Nat} {y1 y2 y3 : Int} {x4 x5 : ByteArray} {w : World} (h : VX v y1 y2 y3 x4 x5 w) (o : Nat) : w.frozen? ⟨v, o, none⟩ = false := Lib.frozen_of_heap h o
theorem VX.grow {b v : Nat} {y1 y2 y3 : Int} {x4 x5 : ByteArray} {w w' : World} (h : VX v y1 y2 y3 x4 x5 w) (hg : w.grownBy w' (some b)) (hn : v ≠ b) : VX v y1 y2 y3 x4 x5 w' := by
  unfold VX at h ⊢
  rw [hg.block v ((Array.getElem?_eq_some_iff.1 h).1) (by simpa using hn)]; exact h
theorem VX.set3 {v : Nat} {y1 y2 y3 : Int} {x4 x5 : ByteArray} {w : World} (h : VX v y1 y2 y3 x4 x5 w) (z : ByteArray) : VX v y1 y2 y3 z x5 (w.setCell ⟨v, 3, none⟩ (.string z)) := by
  unfold VX at h ⊢; simp [World.setCell, Array.getElem?_modify, h]
theorem VX.set4 {v : Nat} {y1 y2 y3 : Int} {x4 x5 : ByteArray} {w : World} (h : VX v y1 y2 y3 x4 x5 w) (z : ByteArray) : VX v y1 y2 y3 x4 z (w.setCell ⟨v, 4, none⟩ (.string z)) := by
  unfold VX at h ⊢; simp [World.setCell, Array.getElem?_modify, h]
theorem VX.other {v u : Nat} {y1 y2 y3 : Int} {x4 x5 : ByteArray} {w : World} (h : VX v y1 y2 y3 x4 x5 w) (hn : v ≠ u) (o : Nat) (x : Value) : VX v y1 y2 y3 x4 x5 (w.setCell ⟨u, o, none⟩ x) := by
  unfold VX at h ⊢; rw [← h]; exact heap_setCell_other w _ v x hn
/-- the result's block written -/
def put5 (w : World) (A : Nat) (y1 y2 y3 : Int) (x4 x5 : ByteArray) : World := ((((w.setCell ⟨A, 0, none⟩ (.int .i64 y1)).setCell ⟨A, 1, none⟩ (.int .i64 y2)).setCell ⟨A, 2, none⟩ (.int .i64 y3)).setCell ⟨A, 3, none⟩ (.string x4)).setCell ⟨A, 4, none⟩ (.string x5)
theorem put5_row {w : World} {A : Nat} {z1 z2 z3 : Int} {z4 z5 : ByteArray} (h : VX A z1 z2 z3 z4 z5 w) (y1 y2 y3 : Int) (x4 x5 : ByteArray) : VX A y1 y2 y3 x4 x5 (put5 w A y1 y2 y3 x4 x5) := by
  unfold VX at h ⊢; unfold put5; simp [World.setCell, Array.getElem?_modify, h]
theorem gb_new {b A : Nat} {w W : World} (h : w.grownBy W (some b)) (hA : w.heap.size ≤ A) (o : Nat) (x : Value) : w.grownBy (W.setCell ⟨A, o, none⟩ x) (some b) :=
  ⟨h.os, h.tape, h.output, by simpa [World.setCell] using h.size, fun k hk hn => by rw [← h.block k hk hn]; exact heap_setCell_other W _ k x (by simp; omega)⟩
theorem put5_gb {b A : Nat} {w W : World} (h : w.grownBy W (some b)) (hA : w.heap.size ≤ A) (y1 y2 y3 : Int) (x4 x5 : ByteArray) : w.grownBy (put5 W A y1 y2 y3 x4 x5) (some b) := gb_new (gb_new (gb_new (gb_new (gb_new h hA _ _) hA _ _) hA _ _) hA _ _) hA _ _
theorem res_row_tmp {P : Program} {fn : Func} {p u : Tmp} {ty : TypeId} (h : fn.results = #[.cell p ty, .tmp u]) (tmps : Array Value) (w : World) (g : Nat) (t : TypeId) (cs : Array Value) (fr : Nat × Nat) (d : TypeDesc)
    (hp : tmps.getD p undef = .pointer (some ⟨g, 0, none⟩)) (hg : w.heap[g]? = some (.cells cs t fr)) (hu : P.underlying ty = some d) (hd : (match d with | .struct _ | .array _ _ => true | _ => false) = true) (hi : (P.info? ty).map (·.size) = some cs.size) :
    (results fn tmps).run P w = .ok (.tuple #[.agg cs, tmps.getD u undef]) w := by
  rw [results_cell_tmp h, hp]
  simp [asAddr, run_loadVar_row w g t ty cs fr d hg hu hd hi, Result.andThen]

set_option linter.unusedVariables false

theorem res_row_tmp2 {P : Program} {fn : Func} {p u r : Tmp} {ty : TypeId} (h : fn.results = #[.cell p ty, .tmp u, .tmp r]) (tmps : Array Value) (w : World) (g : Nat) (t : TypeId) (cs : Array Value) (fr : Nat × Nat) (d : TypeDesc)
    (hp : tmps.getD p undef = .pointer (some ⟨g, 0, none⟩)) (hg : w.heap[g]? = some (.cells cs t fr)) (hu : P.underlying ty = some d) (hd : (match d with | .struct _ | .array _ _ => true | _ => false) = true) (hi : (P.info? ty).map (·.size) = some cs.size) :
    (results fn tmps).run P w = .ok (.tuple #[.agg cs, tmps.getD u undef, tmps.getD r undef]) w := by
  have hp' : tmps[p]?.getD undef = .pointer (some ⟨g, 0, none⟩) := by simpa using hp
  simp [results, h, Result.andThen, hp', asAddr, run_loadVar_row w g t ty cs fr d hg hu hd hi]

theorem gb_new0 {A : Nat} {w W : World} (h : w.grownBy W none) (hA : w.heap.size ≤ A) (o : Nat) (x : Value) : w.grownBy (W.setCell ⟨A, o, none⟩ x) none :=
  ⟨h.os, h.tape, h.output, by simpa [World.setCell] using h.size, fun k hk hn => by rw [← h.block k hk hn]; exact heap_setCell_other W _ k x (by simp; omega)⟩
theorem put5_gb0 {A : Nat} {w W : World} (h : w.grownBy W none) (hA : w.heap.size ≤ A) (y1 y2 y3 : Int) (x4 x5 : ByteArray) : w.grownBy (put5 W A y1 y2 y3 x4 x5) none := gb_new0 (gb_new0 (gb_new0 (gb_new0 (gb_new0 h hA _ _) hA _ _) hA _ _) hA _ _) hA _ _
end Go.Proofs.YtjbmgnnkbpgngaaDoor

/-
  Digits and bytes of parts, by the document, walked.
-/
namespace Go.Proofs.YtjbmgnnkbpgngaaDoor
open Go.RowKit
set_option linter.unusedVariables false

set_option maxHeartbeats 400000 in
theorem rdigit_any (c : UInt8) (w : World) : Calls Tryd.prog 40 #[.int .u8 (c.toNat : Int)] w fun e w' => e = .returned (.bool (isD c)) ∧ w' = w := by
  go_enter Tryd.func40, Tryd.ntmps40
  go_wp2
  all_goals go_ret
  all_goals (refine ⟨ret_bool ?_, rfl⟩; rw [Bool.eq_iff_iff]; unfold isD; simp; omega)

set_option maxHeartbeats 400000 in
theorem rpartByte_any (c : UInt8) (w : World) : Calls Tryd.prog 31 #[.int .u8 (c.toNat : Int)] w fun e w' => e = .returned (.bool (isP c)) ∧ w' = w := by
  go_enter Tryd.func31, Tryd.ntmps31
  go_wp2_with (go_at_call 40; refine (rdigit_any _ _).mono ?_; rintro e w' ⟨rfl, rfl⟩)
  all_goals go_ret
  all_goals (refine ⟨ret_bool ?_, rfl⟩; rw [Bool.eq_iff_iff]; unfold isP; simp_all; try omega)

set_option maxHeartbeats 400000 in
theorem rdigits_any (s : ByteArray) (w : World) (hs : s.size < 2 ^ 62) :
    Calls Tryd.prog 32 #[.string s] w fun e w' => e = .returned (.bool (s.data.toList.all isD)) ∧ w' = w := by
  obtain ⟨R, hR⟩ : ∃ R, R = s.data.toList.all isD := ⟨_, rfl⟩
  have HR : Hid (R = s.data.toList.all isD) := hR
  rw [← hR]
  clear hR
  go_enter Tryd.func32, Tryd.ntmps32
  go_wp2
  go_loop [3] (fun i => ∃ k : Nat, k ≤ s.size ∧ i = .int .i64 k ∧ ∀ j, (hj : j < s.size) → j < k → isD s[j] = true) (fun i => s.size - (intOf i).toNat)
  case atStart => exact ⟨0, Nat.zero_le _, rfl, fun j hj h => absurd h (by omega)⟩
  case round =>
    obtain ⟨k, hk, rfl, hp⟩ := hrel
    have HP : Hid (∀ j, (hj : j < s.size) → j < k → isD s[j] = true) := hp
    clear hp
    by_cases hlt : k < s.size
    · cases hd : isD s[k] with
      | true =>
        go_wp2_with (go_at_call 40; refine (rdigit_any _ _).mono ?_; rintro e w' ⟨rfl, rfl⟩)
        go_round
        case rel =>
          refine ⟨k + 1, by omega, by go_num, fun j hj hjk => ?_⟩
          by_cases hjk' : j < k
          · exact HP.out j hj hjk'
          · have e : j = k := by omega
            subst e
            exact hd
        case measure => simp [intOf]; omega
      | false =>
        have HN : Hid (R = false) := by
          show R = false
          rw [HR.out, List.all_eq_false]
          exact ⟨s[k], List.mem_of_getElem? (get_data s k hlt), by simp [hd]⟩
        go_wp2_with (go_at_call 40; refine (rdigit_any _ _).mono ?_; rintro e w' ⟨rfl, rfl⟩)
        go_ret
        exact ⟨ret_bool HN.out.symm, rfl⟩
    · have HN : Hid (R = true) := by
        show R = true
        rw [HR.out, List.all_eq_true]
        intro c hc
        obtain ⟨j, hj, rfl⟩ := List.getElem_of_mem hc
        exact HP.out j (by simpa using hj) (by simp at hj; have : s.size = s.data.size := rfl; omega)
      clear hk
      go_wp2
      go_ret
      exact ⟨ret_bool HN.out.symm, rfl⟩

end Go.Proofs.YtjbmgnnkbpgngaaDoor
