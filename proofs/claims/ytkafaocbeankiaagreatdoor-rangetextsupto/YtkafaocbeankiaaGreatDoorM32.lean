import Derived.Shelf.Strconv.Itoa3
import Derived.Test.YtkafaocbeankiaaGreatDoorProg
import Derived.Test.YtkafaocbeankiaaGreatDoorM31
import Derived.Test.YtkafaocbeankiaaGreatDoorM19
import Derived.Lib.LaidTab
import Derived.Shelf.Strings.OnBuilder
namespace Go.Proofs
open Go.Shelf
def Tryz.lays171_ren : Go.Shelf.Ren := ⟨fun | 129 => 83 | 171 => 21 | 243 => 38 | 246 => 55 | 283 => 68 | 284 => 69 | 285 => 70 | 286 => 71 | 317 => 87 | 318 => 88 | 319 => 89 | 320 => 90 | 337 => 106 | 338 => 107 | n => n, fun | 22 => 163 | 23 => 134 | 27 => 71 | 28 => 75 | 31 => 37 | 37 => 54 | 40 => 171 | 41 => 87 | 43 => 70 | 46 => 106 | 47 => 105 | 51 => 132 | 52 => 131 | 53 => 114 | 54 => 115 | 55 => 157 | 59 => 107 | 60 => 108 | 63 => 160 | 64 => 166 | 67 => 41 | 68 => 86 | 69 => 96 | 70 => 53 | 71 => 55 | 72 => 56 | 73 => 57 | 74 => 58 | 75 => 59 | 76 => 60 | 77 => 61 | 80 => 62 | 81 => 177 | 83 => 52 | 84 => 97 | 104 => 88 | 105 => 158 | 106 => 159 | 111 => 63 | 112 => 51 | 114 => 136 | 115 => 148 | 116 => 149 | 117 => 150 | 118 => 151 | 119 => 167 | 122 => 147 | 123 => 152 | 124 => 153 | 127 => 85 | 131 => 129 | 137 => 168 | 138 => 169 | 139 => 170 | 146 => 164 | 151 => 165 | 164 => 98 | 165 => 99 | 166 => 100 | 171 => 113 | 172 => 116 | 173 => 117 | 174 => 118 | 182 => 124 | 183 => 125 | 211 => 137 | 212 => 138 | 213 => 139 | 218 => 142 | 219 => 143 | 220 => 144 | 222 => 81 | 228 => 154 | 229 => 155 | 232 => 161 | 233 => 162 | 238 => 172 | 239 => 173 | 240 => 174 | 241 => 175 | 242 => 176 | 243 => 178 | 244 => 179 | 245 => 180 | 246 => 181 | 247 => 182 | 248 => 183 | 249 => 184 | n => n, fun | 1 => 0 | 3 => 4 | 4 => 5 | 17 => 1 | 18 => 2 | 19 => 3 | n => n⟩
set_option maxRecDepth 100000 in
theorem Tryz.lays171 : Go.Proofs.LaysM.n171 Tryz.prog Tryz.lays171_ren := {
  mixed := by kernel_rfl
  f129 := Tryz.func83.trans (congrArg some (by kernel_rfl))
  f171 := Tryz.func21.trans (congrArg some (by kernel_rfl))
  f243 := Tryz.func38.trans (congrArg some (by kernel_rfl))
  f246 := Tryz.func55.trans (congrArg some (by kernel_rfl))
  f283 := Tryz.func68.trans (congrArg some (by kernel_rfl))
  f284 := Tryz.func69.trans (congrArg some (by kernel_rfl))
  f285 := Tryz.func70.trans (congrArg some (by kernel_rfl))
  f286 := Tryz.func71.trans (congrArg some (by kernel_rfl))
  f317 := Tryz.func87.trans (congrArg some (by kernel_rfl))
  f318 := Tryz.func88.trans (congrArg some (by kernel_rfl))
  f319 := Tryz.func89.trans (congrArg some (by kernel_rfl))
  f320 := Tryz.func90.trans (congrArg some (by kernel_rfl))
  f337 := Tryz.func106.trans (congrArg some (by kernel_rfl))
  f338 := Tryz.func107.trans (congrArg some (by kernel_rfl))
  t0 := Tryz.underlying0
  a0 := Tryz.isAgg0
  z0 := Tryz.sizeOf0
  v0 := Tryz.zeroValue0
  t2 := Tryz.underlying2
  a2 := Tryz.isAgg2
  z2 := Tryz.sizeOf2
  v2 := Tryz.zeroValue2
  t3 := Tryz.underlying3
  a3 := Tryz.isAgg3
  z3 := Tryz.sizeOf3
  v3 := Tryz.zeroValue3
  t4 := Tryz.underlying4
  a4 := Tryz.isAgg4
  z4 := Tryz.sizeOf4
  v4 := Tryz.zeroValue4
  t5 := Tryz.underlying5
  a5 := Tryz.isAgg5
  z5 := Tryz.sizeOf5
  v5 := Tryz.zeroValue5
  t9 := Tryz.underlying9
  a9 := Tryz.isAgg9
  z9 := Tryz.sizeOf9
  v9 := Tryz.zeroValue9
  t20 := Tryz.underlying20
  a20 := Tryz.isAgg20
  z20 := Tryz.sizeOf20
  v20 := Tryz.zeroValue20
  t37 := Tryz.underlying54
  a37 := Tryz.isAgg54
  z37 := Tryz.sizeOf54
  v37 := Tryz.zeroValue54
  t46 := Tryz.underlying106
  a46 := Tryz.isAgg106
  z46 := Tryz.sizeOf106
  v46 := Tryz.zeroValue106
  t51 := Tryz.underlying132
  a51 := Tryz.isAgg132
  z51 := Tryz.sizeOf132
  v51 := Tryz.zeroValue132
  t53 := Tryz.underlying114
  a53 := Tryz.isAgg114
  z53 := Tryz.sizeOf114
  v53 := Tryz.zeroValue114
  t171 := Tryz.underlying113
  a171 := Tryz.isAgg113
  z171 := Tryz.sizeOf113
  v171 := Tryz.zeroValue113
  t173 := Tryz.underlying117
  a173 := Tryz.isAgg117
  z173 := Tryz.sizeOf117
  v173 := Tryz.zeroValue117
  t212 := Tryz.underlying138
  a212 := Tryz.isAgg138
  z212 := Tryz.sizeOf138
  v212 := Tryz.zeroValue138
  t213 := Tryz.underlying139
  a213 := Tryz.isAgg139
  z213 := Tryz.sizeOf139
  t232 := Tryz.underlying161
  a232 := Tryz.isAgg161
  z232 := Tryz.sizeOf161
  v232 := Tryz.zeroValue161
  t233 := Tryz.underlying162
  a233 := Tryz.isAgg162
  z233 := Tryz.sizeOf162
  v233 := Tryz.zeroValue162
  g17 := by kernel_rfl
  g18 := by kernel_rfl
  g19 := by kernel_rfl
  i0 := by kernel_rfl
  i2 := by kernel_rfl
  i3 := by kernel_rfl
  i4 := by kernel_rfl
  i5 := by kernel_rfl
  i9 := by kernel_rfl
  i20 := by kernel_rfl
  i37 := by kernel_rfl
  i46 := by kernel_rfl
  i51 := by kernel_rfl
  i53 := by kernel_rfl
  i171 := by kernel_rfl
  i173 := by kernel_rfl
  i212 := by kernel_rfl
  i232 := by kernel_rfl
  i233 := by kernel_rfl
  m17 := by kernel_rfl
  m18 := by kernel_rfl
  m19 := by kernel_rfl }
end Go.Proofs

/-
  Versions written; walked.
-/
namespace Go.Proofs.YtkafaocbeankiaaGreatDoor
open Go.RowKit Go.Shelf
set_option linter.unusedVariables false

def Tab (w : World) : Prop := Lib.TabIs Tryz.prog w "internal/strconv.uint64pow10" .u64 Lib.pow10Tab
theorem tab_grow {w w' : World} (h : Tab w) (hg : w.grownBy w' none) : Tab w' := by
  unfold Tab Lib.TabIs World.var? at h ⊢
  cases hgn : Tryz.prog.globalNamed "internal/strconv.uint64pow10" with
  | none => simp [hgn] at h
  | some g =>
    simp only [hgn, Option.bind_some] at h ⊢
    have hlt : g < w.heap.size := by
      rcases Nat.lt_or_ge g w.heap.size with h' | h'
      · exact h'
      · simp [Array.getElem?_eq_none h'] at h
    rw [hg.block g hlt (by simp)]
    exact h
theorem itoa_any (n : Int) (w : World) (h0 : -9223372036854775808 ≤ n) (h1 : n ≤ 9223372036854775807) (ht : Tab w) :
    Calls Tryz.prog 21 #[.int .i64 n] w fun e w' => e = .returned (.string ⟨(Lib.itoa n).toArray⟩) ∧ w.grownBy w' none := by
  refine Calls.mono (Any.strconv_Itoa Tryz.lays171 n h0 h1 w ht) ?_
  rintro e w' ⟨rfl, k, os, rfl⟩
  refine ⟨rfl, ⟨rfl, rfl, rfl, by show w.heap.size ≤ (w.heap ++ os).size; simp, fun i hi _ => ?_⟩⟩
  show (w.heap ++ os)[i]? = w.heap[i]?
  rw [Array.getElem?_append_left hi]

theorem tab_grow' {w w' : World} (hg : w.grownBy w' none) (h : Tab w) : Tab w' := tab_grow h hg
theorem tabOf {A : Nat} {a1 a2 a3 : Int} {a4 a5 : ByteArray} {w : World} (h : w.cell? ⟨A, 0, none⟩ = some (.int .i64 a1) ∧ w.cell? ⟨A, 1, none⟩ = some (.int .i64 a2) ∧ w.cell? ⟨A, 2, none⟩ = some (.int .i64 a3) ∧ w.cell? ⟨A, 3, none⟩ = some (.string a4) ∧ w.cell? ⟨A, 4, none⟩ = some (.string a5) ∧ Tab w) : Tab w := h.2.2.2.2.2
theorem keepTab {A : Nat} {a1 a2 a3 : Int} {a4 a5 : ByteArray} {w w' : World} (hg : w.grownBy w' none) (h : w.cell? ⟨A, 0, none⟩ = some (.int .i64 a1) ∧ w.cell? ⟨A, 1, none⟩ = some (.int .i64 a2) ∧ w.cell? ⟨A, 2, none⟩ = some (.int .i64 a3) ∧ w.cell? ⟨A, 3, none⟩ = some (.string a4) ∧ w.cell? ⟨A, 4, none⟩ = some (.string a5) ∧ Tab w) : w'.cell? ⟨A, 0, none⟩ = some (.int .i64 a1) ∧ w'.cell? ⟨A, 1, none⟩ = some (.int .i64 a2) ∧ w'.cell? ⟨A, 2, none⟩ = some (.int .i64 a3) ∧ w'.cell? ⟨A, 3, none⟩ = some (.string a4) ∧ w'.cell? ⟨A, 4, none⟩ = some (.string a5) ∧ Tab w' := by
  obtain ⟨h1, h2, h3, h4, h5, h6⟩ := h
  exact ⟨hg.cell h1 (by simp), hg.cell h2 (by simp), hg.cell h3 (by simp), hg.cell h4 (by simp), hg.cell h5 (by simp), tab_grow h6 hg⟩

/-- the texts on the way -/
theorem text_steps (a1 a2 a3 : Int) (a4 a5 : List UInt8) (b1 : -9223372036854775808 ≤ a1 ∧ a1 ≤ 9223372036854775807) (b2 : -9223372036854775808 ≤ a2 ∧ a2 ≤ 9223372036854775807) (b3 : -9223372036854775808 ≤ a3 ∧ a3 ≤ 9223372036854775807) (h4 : a4.length < 2 ^ 60) (h5 : a5.length < 2 ^ 60) :
    ∃ T1 T2 T3 X1 X2 X3 X4 : List UInt8, T1 = Lib.itoa a1 ∧ T2 = Lib.itoa a2 ∧ T3 = Lib.itoa a3 ∧
      (∀ wx, (Op.stringOp .add ⟨T1.toArray⟩ ⟨#[46]⟩).run Tryz.prog wx = .ok (.string ⟨X1.toArray⟩) wx) ∧
      (∀ wx, (Op.stringOp .add ⟨X1.toArray⟩ ⟨T2.toArray⟩).run Tryz.prog wx = .ok (.string ⟨X2.toArray⟩) wx) ∧
      (∀ wx, (Op.stringOp .add ⟨X2.toArray⟩ ⟨#[46]⟩).run Tryz.prog wx = .ok (.string ⟨X3.toArray⟩) wx) ∧
      (∀ wx, (Op.stringOp .add ⟨X3.toArray⟩ ⟨T3.toArray⟩).run Tryz.prog wx = .ok (.string ⟨X4.toArray⟩) wx) ∧
      X4.length < 2 ^ 62 ∧ textV ⟨a1, a2, a3, a4, a5⟩ = X4 ++ (optT 45 a4 ++ optT 43 a5) := by
  have l1 := itoa_len a1 b1.1 b1.2
  have l2 := itoa_len a2 b2.1 b2.2
  have l3 := itoa_len a3 b3.1 b3.2
  refine ⟨_, _, _, Lib.itoa a1 ++ [46], Lib.itoa a1 ++ [46] ++ Lib.itoa a2, Lib.itoa a1 ++ [46] ++ Lib.itoa a2 ++ [46], Lib.itoa a1 ++ [46] ++ Lib.itoa a2 ++ [46] ++ Lib.itoa a3, rfl, rfl, rfl, fun wx => add_lists _ [46] wx ?_, fun wx => add_lists _ _ wx ?_, fun wx => add_lists _ [46] wx ?_, fun wx => add_lists _ _ wx ?_, ?_, ?_⟩
  · simp; omega
  · simp; omega
  · simp; omega
  · simp; omega
  · simp; omega
  · simp [textV]

theorem ret_str {a b : List UInt8} (h : a = b) : Ending.returned (.string ⟨a.toArray⟩) = .returned (.string ⟨b.toArray⟩) := by rw [h]
theorem opt_step (c : UInt8) (X : List UInt8) (a : ByteArray) (h : X.length + a.size + 1 ≤ 9223372036854775807) :
    ∃ (P : ByteArray) (Y : List UInt8), (∀ wx, (Op.stringOp .add ⟨#[c]⟩ a).run Tryz.prog wx = .ok (.string P) wx) ∧ (∀ wx, (Op.stringOp .add ⟨X.toArray⟩ P).run Tryz.prog wx = .ok (.string ⟨Y.toArray⟩) wx) ∧ Y = X ++ c :: a.data.toList ∧ Y.length = X.length + a.size + 1 := by
  have ea : a = ⟨a.data.toList.toArray⟩ := by cases a; simp
  have la : a.data.toList.length = a.size := by simp
  refine ⟨⟨([c] ++ a.data.toList).toArray⟩, X ++ ([c] ++ a.data.toList), fun wx => ?_, fun wx => add_lists X ([c] ++ a.data.toList) wx (by simp only [List.length_append, List.length_cons, List.length_nil, la]; omega), rfl, by simp only [List.length_append, List.length_cons, List.length_nil, la]; omega⟩
  conv => lhs; rw [ea]
  exact add_lists [c] a.data.toList wx (by simp only [List.length_cons, List.length_nil, la]; omega)

set_option maxHeartbeats 1600000 in
theorem vtext_any (a1 a2 a3 : Int) (a4 a5 : ByteArray) (w : World) (ht : Tab w) (b1 : -9223372036854775808 ≤ a1 ∧ a1 ≤ 9223372036854775807) (b2 : -9223372036854775808 ≤ a2 ∧ a2 ≤ 9223372036854775807) (b3 : -9223372036854775808 ≤ a3 ∧ a3 ≤ 9223372036854775807) (h4 : a4.size < 2 ^ 60) (h5 : a5.size < 2 ^ 60) :
    Calls Tryz.prog 10 #[.agg #[.int .i64 a1, .int .i64 a2, .int .i64 a3, .string a4, .string a5]] w fun e w' => e = .returned (.string ⟨(textV ⟨a1, a2, a3, a4.data.toList, a5.data.toList⟩).toArray⟩) ∧ w.grownBy w' none := by
  obtain ⟨T1, T2, T3, X1, X2, X3, X4, e1, e2, e3, d1, d2, d3, d4, hl, hx⟩ := text_steps a1 a2 a3 a4.data.toList a5.data.toList b1 b2 b3 (by simpa using h4) (by simpa using h5)
  have I1 : Hid (∀ w, Tab w → Calls Tryz.prog 21 #[.int .i64 a1] w fun e w' => e = .returned (.string ⟨T1.toArray⟩) ∧ w.grownBy w' none) := fun w h => by rw [e1]; exact itoa_any a1 w b1.1 b1.2 h
  have I2 : Hid (∀ w, Tab w → Calls Tryz.prog 21 #[.int .i64 a2] w fun e w' => e = .returned (.string ⟨T2.toArray⟩) ∧ w.grownBy w' none) := fun w h => by rw [e2]; exact itoa_any a2 w b2.1 b2.2 h
  have I3 : Hid (∀ w, Tab w → Calls Tryz.prog 21 #[.int .i64 a3] w fun e w' => e = .returned (.string ⟨T3.toArray⟩) ∧ w.grownBy w' none) := fun w h => by rw [e3]; exact itoa_any a3 w b3.1 b3.2 h
  obtain ⟨R, hR⟩ : ∃ R, R = textV ⟨a1, a2, a3, a4.data.toList, a5.data.toList⟩ := ⟨_, rfl⟩
  rw [← hR]
  have HR : Hid (R = X4 ++ (optT 45 a4.data.toList ++ optT 43 a5.data.toList)) := by show R = _; rw [hR, hx]
  clear e1 e2 e3 hx b1 b2 b3 hR
  go_enter Tryz.func10, Tryz.ntmps10
  go_wp2
  obtain ⟨W, hW⟩ : ∃ W, w.alloc (.cells #[.int .i64 a1, .int .i64 a2, .int .i64 a3, .string a4, .string a5] 35) = W := ⟨_, rfl⟩
  have HG : Hid (w.grownBy W none) := by show w.grownBy W none; rw [← hW]; exact gb_alloc (gb_refl w none) _
  obtain ⟨A, hA⟩ : ∃ A, w.heap.size = A := ⟨_, rfl⟩
  have STa : Hid (St A a1 a2 a3 a4 a5 W) := by
    show St A a1 a2 a3 a4 a5 W
    rw [← hW, ← hA]; exact st_row (t := 35) (heap_alloc_new w _)
  have tW : Tab W := tab_grow ht HG.out
  rw [hW, hA]
  clear hW hA ht
  have tWd : Tab W.drew := tW
  obtain ⟨s1, s2, s3, s4, s5⟩ := STa.out
  go_region_held3 (fun w' => w'.cell? ⟨A, 0, none⟩ = some (.int .i64 a1) ∧ w'.cell? ⟨A, 1, none⟩ = some (.int .i64 a2) ∧ w'.cell? ⟨A, 2, none⟩ = some (.int .i64 a3) ∧ w'.cell? ⟨A, 3, none⟩ = some (.string a4) ∧ w'.cell? ⟨A, 4, none⟩ = some (.string a5) ∧ Tab w') ((first | exact keepTab (by assumption) (by assumption) | (refine ⟨?_, ?_, ?_, ?_, ?_, ?_⟩ <;> (first | (refine World.grownBy.cell (by assumption) ?_ (by simp); assumption) | exact tab_grow' (by assumption) (by assumption))) | go_keep)) (first | (go_at_call_of 21 a1; refine (I1.out _ (by first | assumption | exact tabOf (by assumption))).mono ?_; rintro e w1 ⟨rfl, hg1⟩) | (go_at_call_of 21 a2; refine (I2.out _ (by first | assumption | exact tabOf (by assumption))).mono ?_; rintro e w2 ⟨rfl, hg2⟩) | (go_at_call_of 21 a3; refine (I3.out _ (by first | assumption | exact tabOf (by assumption))).mono ?_; rintro e w3 ⟨rfl, hg3⟩))
  have hgs : W.grownBy w3 none := gb_trans (gb_trans (gb_undrew hg1) hg2) hg3
  replace HG : Hid (w.grownBy w3 none) := gb_trans HG.out hgs
  replace STa : Hid (St A a1 a2 a3 a4 a5 w3) := STa.out.grow hgs
  clear hgs hg1 hg2 hg3 s1 s2 s3 s4 s5 tW tWd I1 I2 I3 d1 d2 d3 d4
  obtain ⟨-, -, -, s4, s5⟩ := STa.out
  obtain ⟨P4, Y4, p4, y4, hY4, hY4l⟩ := opt_step 45 X4 a4 (by omega)
  by_cases z4 : a4.size = 0
  · have e4 := emp_t2 z4
    have o4 : optT 45 a4.data.toList = [] := by rw [List.length_eq_zero_iff.1 (show a4.data.toList.length = 0 by simpa using z4)]; rfl
    have HR4 : Hid (R = X4 ++ optT 43 a5.data.toList) := by show R = _; rw [HR.out, o4, List.nil_append]
    obtain ⟨P5, Y5, p5, y5, hY5, hY5l⟩ := opt_step 43 X4 a5 (by omega)
    clear p4 y4 hY4 hY4l o4 z4
    by_cases z5 : a5.size = 0
    · have e5 := emp_t2 z5
      have o5 : optT 43 a5.data.toList = [] := by rw [List.length_eq_zero_iff.1 (show a5.data.toList.length = 0 by simpa using z5)]; rfl
      have HZ : Hid (R = X4) := by show R = _; rw [HR4.out, o5, List.append_nil]
      clear o5 z5 p5 y5 hY5 hY5l
      go_wp2
      go_ret
      exact ⟨ret_str HZ.out.symm, HG.out⟩
    · have e5 := emp_f2 z5
      have o5 : X4 ++ optT 43 a5.data.toList = Y5 := by unfold optT; rw [if_neg (fun e => z5 (by show a5.data.size = 0; rw [← Array.length_toList, e]; rfl)), hY5]
      have HZ : Hid (R = Y5) := by show R = _; rw [HR4.out, o5]
      clear o5 z5 hY5 hY5l
      go_wp2
      go_ret
      exact ⟨ret_str HZ.out.symm, HG.out⟩
  · have e4 := emp_f2 z4
    have o4 : X4 ++ (optT 45 a4.data.toList ++ optT 43 a5.data.toList) = Y4 ++ optT 43 a5.data.toList := by
      rw [← List.append_assoc, hY4]; congr 1; unfold optT; rw [if_neg (fun e => z4 (by show a4.data.size = 0; rw [← Array.length_toList, e]; rfl))]
    have HR4 : Hid (R = Y4 ++ optT 43 a5.data.toList) := by show R = _; rw [HR.out, o4]
    obtain ⟨P5, Y5, p5, y5, hY5, hY5l⟩ := opt_step 43 Y4 a5 (by omega)
    clear hY4 hY4l o4 z4
    by_cases z5 : a5.size = 0
    · have e5 := emp_t2 z5
      have o5 : optT 43 a5.data.toList = [] := by rw [List.length_eq_zero_iff.1 (show a5.data.toList.length = 0 by simpa using z5)]; rfl
      have HZ : Hid (R = Y4) := by show R = _; rw [HR4.out, o5, List.append_nil]
      clear o5 z5 p5 y5 hY5 hY5l
      go_wp2
      go_ret
      exact ⟨ret_str HZ.out.symm, HG.out⟩
    · have e5 := emp_f2 z5
      have o5 : Y4 ++ optT 43 a5.data.toList = Y5 := by unfold optT; rw [if_neg (fun e => z5 (by show a5.data.size = 0; rw [← Array.length_toList, e]; rfl)), hY5]
      have HZ : Hid (R = Y5) := by show R = _; rw [HR4.out, o5]
      clear o5 z5 hY5 hY5l
      go_wp2
      go_ret
      exact ⟨ret_str HZ.out.symm, HG.out⟩

end Go.Proofs.YtkafaocbeankiaaGreatDoor

namespace Go.Proofs
open Go.Shelf
def Tryz.lays156_ren : Go.Shelf.Ren := ⟨fun | 156 => 13 | 165 => 22 | 166 => 23 | 169 => 24 | 240 => 39 | 241 => 40 | 276 => 56 | 277 => 57 | n => n, fun | 22 => 163 | 23 => 134 | 27 => 71 | 28 => 75 | 31 => 37 | 37 => 54 | 40 => 171 | 41 => 87 | 43 => 70 | 46 => 106 | 47 => 105 | 51 => 132 | 52 => 131 | 53 => 114 | 54 => 115 | 55 => 157 | 59 => 107 | 60 => 108 | 63 => 160 | 64 => 166 | 67 => 41 | 68 => 86 | 69 => 96 | 70 => 53 | 71 => 55 | 72 => 56 | 73 => 57 | 74 => 58 | 75 => 59 | 76 => 60 | 77 => 61 | 80 => 62 | 81 => 177 | 83 => 52 | 84 => 97 | 104 => 88 | 105 => 158 | 106 => 159 | 111 => 63 | 112 => 51 | 114 => 136 | 115 => 148 | 116 => 149 | 117 => 150 | 118 => 151 | 119 => 167 | 122 => 147 | 123 => 152 | 124 => 153 | 127 => 85 | 131 => 129 | 137 => 168 | 138 => 169 | 139 => 170 | 146 => 164 | 151 => 165 | 164 => 98 | 165 => 99 | 166 => 100 | 171 => 113 | 172 => 116 | 173 => 117 | 174 => 118 | 182 => 124 | 183 => 125 | 211 => 137 | 212 => 138 | 213 => 139 | 218 => 142 | 219 => 143 | 220 => 144 | 222 => 81 | 228 => 154 | 229 => 155 | 232 => 161 | 233 => 162 | 238 => 172 | 239 => 173 | 240 => 174 | 241 => 175 | 242 => 176 | 243 => 178 | 244 => 179 | 245 => 180 | 246 => 181 | 247 => 182 | 248 => 183 | 249 => 184 | n => n, fun | 1 => 0 | 3 => 4 | 4 => 5 | 17 => 1 | 18 => 2 | 19 => 3 | n => n⟩
set_option maxRecDepth 100000 in
theorem Tryz.lays156 : Go.Proofs.Lays.n156 Tryz.prog Tryz.lays156_ren := {
  mixed := by kernel_rfl
  f156 := Tryz.func13.trans (congrArg some (by kernel_rfl))
  f165 := Tryz.func22.trans (congrArg some (by kernel_rfl))
  f166 := Tryz.func23.trans (congrArg some (by kernel_rfl))
  f169 := Tryz.func24.trans (congrArg some (by kernel_rfl))
  f240 := Tryz.func39.trans (congrArg some (by kernel_rfl))
  f241 := Tryz.func40.trans (congrArg some (by kernel_rfl))
  f276 := Tryz.func56.trans (congrArg some (by kernel_rfl))
  f277 := Tryz.func57.trans (congrArg some (by kernel_rfl))
  t0 := Tryz.underlying0
  a0 := Tryz.isAgg0
  z0 := Tryz.sizeOf0
  v0 := Tryz.zeroValue0
  t3 := Tryz.underlying3
  a3 := Tryz.isAgg3
  z3 := Tryz.sizeOf3
  v3 := Tryz.zeroValue3
  t4 := Tryz.underlying4
  a4 := Tryz.isAgg4
  z4 := Tryz.sizeOf4
  v4 := Tryz.zeroValue4
  t9 := Tryz.underlying9
  a9 := Tryz.isAgg9
  z9 := Tryz.sizeOf9
  v9 := Tryz.zeroValue9
  t20 := Tryz.underlying20
  a20 := Tryz.isAgg20
  z20 := Tryz.sizeOf20
  v20 := Tryz.zeroValue20
  t31 := Tryz.underlying37
  a31 := Tryz.isAgg37
  z31 := Tryz.sizeOf37
  v31 := Tryz.zeroValue37
  t37 := Tryz.underlying54
  a37 := Tryz.isAgg54
  z37 := Tryz.sizeOf54
  v37 := Tryz.zeroValue54
  t70 := Tryz.underlying53
  a70 := Tryz.isAgg53
  z70 := Tryz.sizeOf53
  v70 := Tryz.zeroValue53
  t72 := Tryz.underlying56
  a72 := Tryz.isAgg56
  z72 := Tryz.sizeOf56
  v72 := Tryz.zeroValue56
  t75 := Tryz.underlying59
  a75 := Tryz.isAgg59
  z75 := Tryz.sizeOf59
  v75 := Tryz.zeroValue59
  t76 := Tryz.underlying60
  a76 := Tryz.isAgg60
  z76 := Tryz.sizeOf60
  v76 := Tryz.zeroValue60
  t127 := Tryz.underlying85
  a127 := Tryz.isAgg85
  z127 := Tryz.sizeOf85
  v127 := Tryz.zeroValue85
  t164 := Tryz.underlying98
  a164 := Tryz.isAgg98
  z164 := Tryz.sizeOf98
  v164 := Tryz.zeroValue98 }
theorem Tryz.Builder_Extra_156 : Builder.Extra Tryz.prog Tryz.lays156_ren := {
  sizeBuilder := by kernel_rfl
  liesBuilder := by kernel_rfl
  t5 := Tryz.underlying5
  a5 := Tryz.isAgg5
  z5 := Tryz.sizeOf5
  v5 := Tryz.zeroValue5
  infoByte := by kernel_rfl
  cellsByte := by kernel_rfl
  sizeByte := by kernel_rfl
  neB5 := by decide }
end Go.Proofs
