/-
  Versions written; walked.
-/
import Derived.Test.YtlfekpgoibgplaaDoorRg
import Derived.Test.YtlfekpgoibgplaaDoorWd
import Derived.Test.YtlfekpgoibgplaaDoorShelf2
import Derived.Lib.LaidTab
namespace Go.Proofs.YtlfekpgoibgplaaDoor
open Go.RowKit Go.Shelf
set_option linter.unusedVariables false

def Tab (w : World) : Prop := Lib.TabIs Tryd.prog w "internal/strconv.uint64pow10" .u64 Lib.pow10Tab
theorem tab_grow {w w' : World} (h : Tab w) (hg : w.grownBy w' none) : Tab w' := by
  unfold Tab Lib.TabIs World.var? at h ⊢
  cases hgn : Tryd.prog.globalNamed "internal/strconv.uint64pow10" with
  | none => simp [hgn] at h
  | some g =>
    simp only [hgn, Option.bind_some] at h ⊢
    have hlt : g < w.heap.size := by
      rcases Nat.lt_or_ge g w.heap.size with h' | h'
      · exact h'
      · simp [Array.getElem?_eq_none h'] at h
    rw [hg.block g hlt (by simp)]
    exact h
theorem itoa_any (n : Int) (w : World) (h0 : -9223372036854775808 ≤ n) (h1 : n ≤ 9223372036854775807) (ht : Tab w) :
    Calls Tryd.prog 20 #[.int .i64 n] w fun e w' => e = .returned (.string ⟨(Lib.itoa n).toArray⟩) ∧ w.grownBy w' none := by
  refine Calls.mono (Any.strconv_Itoa Tryd.lays171 n h0 h1 w ht) ?_
  rintro e w' ⟨rfl, k, os, rfl⟩
  refine ⟨rfl, ⟨rfl, rfl, rfl, by show w.heap.size ≤ (w.heap ++ os).size; simp, fun i hi _ => ?_⟩⟩
  show (w.heap ++ os)[i]? = w.heap[i]?
  rw [Array.getElem?_append_left hi]

theorem tab_grow' {w w' : World} (hg : w.grownBy w' none) (h : Tab w) : Tab w' := tab_grow h hg
theorem tabOf {A : Nat} {a1 a2 a3 : Int} {a4 a5 : ByteArray} {w : World} (h : w.cell? ⟨A, 0, none⟩ = some (.int .i64 a1) ∧ w.cell? ⟨A, 1, none⟩ = some (.int .i64 a2) ∧ w.cell? ⟨A, 2, none⟩ = some (.int .i64 a3) ∧ w.cell? ⟨A, 3, none⟩ = some (.string a4) ∧ w.cell? ⟨A, 4, none⟩ = some (.string a5) ∧ Tab w) : Tab w := h.2.2.2.2.2
theorem keepT {A : Nat} {a1 a2 a3 : Int} {a4 a5 : ByteArray} {w w' : World} (hg : w.grownBy w' none) (h : w.cell? ⟨A, 0, none⟩ = some (.int .i64 a1) ∧ w.cell? ⟨A, 1, none⟩ = some (.int .i64 a2) ∧ w.cell? ⟨A, 2, none⟩ = some (.int .i64 a3) ∧ w.cell? ⟨A, 3, none⟩ = some (.string a4) ∧ w.cell? ⟨A, 4, none⟩ = some (.string a5) ∧ Tab w) : w'.cell? ⟨A, 0, none⟩ = some (.int .i64 a1) ∧ w'.cell? ⟨A, 1, none⟩ = some (.int .i64 a2) ∧ w'.cell? ⟨A, 2, none⟩ = some (.int .i64 a3) ∧ w'.cell? ⟨A, 3, none⟩ = some (.string a4) ∧ w'.cell? ⟨A, 4, none⟩ = some (.string a5) ∧ Tab w' := by
  obtain ⟨h1, h2, h3, h4, h5, h6⟩ := h
  exact ⟨hg.cell h1 (by simp), hg.cell h2 (by simp), hg.cell h3 (by simp), hg.cell h4 (by simp), hg.cell h5 (by simp), tab_grow h6 hg⟩

/-- the texts on the way -/
theorem text_steps (a1 a2 a3 : Int) (a4 a5 : List UInt8) (b1 : -9223372036854775808 ≤ a1 ∧ a1 ≤ 9223372036854775807) (b2 : -9223372036854775808 ≤ a2 ∧ a2 ≤ 9223372036854775807) (b3 : -9223372036854775808 ≤ a3 ∧ a3 ≤ 9223372036854775807) (h4 : a4.length < 2 ^ 60) (h5 : a5.length < 2 ^ 60) :
    ∃ T1 T2 T3 X1 X2 X3 X4 : List UInt8, T1 = Lib.itoa a1 ∧ T2 = Lib.itoa a2 ∧ T3 = Lib.itoa a3 ∧
      (∀ wx, (Op.stringOp .add ⟨T1.toArray⟩ ⟨#[46]⟩).run Tryd.prog wx = .ok (.string ⟨X1.toArray⟩) wx) ∧
      (∀ wx, (Op.stringOp .add ⟨X1.toArray⟩ ⟨T2.toArray⟩).run Tryd.prog wx = .ok (.string ⟨X2.toArray⟩) wx) ∧
      (∀ wx, (Op.stringOp .add ⟨X2.toArray⟩ ⟨#[46]⟩).run Tryd.prog wx = .ok (.string ⟨X3.toArray⟩) wx) ∧
      (∀ wx, (Op.stringOp .add ⟨X3.toArray⟩ ⟨T3.toArray⟩).run Tryd.prog wx = .ok (.string ⟨X4.toArray⟩) wx) ∧
      X4.length < 2 ^ 62 ∧ textV ⟨a1, a2, a3, a4, a5⟩ = X4 ++ (optT 45 a4 ++ optT 43 a5) := by
  have l1 := itoa_len a1 b1.1 b1.2
  have l2 := itoa_len a2 b2.1 b2.2
  have l3 := itoa_len a3 b3.1 b3.2
  refine ⟨_, _, _, Lib.itoa a1 ++ [46], Lib.itoa a1 ++ [46] ++ Lib.itoa a2, Lib.itoa a1 ++ [46] ++ Lib.itoa a2 ++ [46], Lib.itoa a1 ++ [46] ++ Lib.itoa a2 ++ [46] ++ Lib.itoa a3, rfl, rfl, rfl, fun wx => add_lists _ [46] wx ?_, fun wx => add_lists _ _ wx ?_, fun wx => add_lists _ [46] wx ?_, fun wx => add_lists _ _ wx ?_, ?_, ?_⟩
  · simp; omega
  · simp; omega
  · simp; omega
  · simp; omega
  · simp; omega
  · simp [textV]

theorem ret_str {a b : List UInt8} (h : a = b) : Ending.returned (.string ⟨a.toArray⟩) = .returned (.string ⟨b.toArray⟩) := by rw [h]
theorem opt_step (c : UInt8) (X : List UInt8) (a : ByteArray) (h : X.length + a.size + 1 ≤ 9223372036854775807) :
    ∃ (P : ByteArray) (Y : List UInt8), (∀ wx, (Op.stringOp .add ⟨#[c]⟩ a).run Tryd.prog wx = .ok (.string P) wx) ∧ (∀ wx, (Op.stringOp .add ⟨X.toArray⟩ P).run Tryd.prog wx = .ok (.string ⟨Y.toArray⟩) wx) ∧ Y = X ++ c :: a.data.toList ∧ Y.length = X.length + a.size + 1 := by
  have ea : a = ⟨a.data.toList.toArray⟩ := by cases a; simp
  have la : a.data.toList.length = a.size := by simp
  refine ⟨⟨([c] ++ a.data.toList).toArray⟩, X ++ ([c] ++ a.data.toList), fun wx => ?_, fun wx => add_lists X ([c] ++ a.data.toList) wx (by simp only [List.length_append, List.length_cons, List.length_nil, la]; omega), rfl, by simp only [List.length_append, List.length_cons, List.length_nil, la]; omega⟩
  conv => lhs; rw [ea]
  exact add_lists [c] a.data.toList wx (by simp only [List.length_cons, List.length_nil, la]; omega)

set_option maxHeartbeats 1600000 in
theorem vtext_any (a1 a2 a3 : Int) (a4 a5 : ByteArray) (w : World) (ht : Tab w) (b1 : -9223372036854775808 ≤ a1 ∧ a1 ≤ 9223372036854775807) (b2 : -9223372036854775808 ≤ a2 ∧ a2 ≤ 9223372036854775807) (b3 : -9223372036854775808 ≤ a3 ∧ a3 ≤ 9223372036854775807) (h4 : a4.size < 2 ^ 60) (h5 : a5.size < 2 ^ 60) :
    Calls Tryd.prog 8 #[.agg #[.int .i64 a1, .int .i64 a2, .int .i64 a3, .string a4, .string a5]] w fun e w' => e = .returned (.string ⟨(textV ⟨a1, a2, a3, a4.data.toList, a5.data.toList⟩).toArray⟩) ∧ w.grownBy w' none := by
  obtain ⟨T1, T2, T3, X1, X2, X3, X4, e1, e2, e3, d1, d2, d3, d4, hl, hx⟩ := text_steps a1 a2 a3 a4.data.toList a5.data.toList b1 b2 b3 (by simpa using h4) (by simpa using h5)
  have I1 : Hid (∀ w, Tab w → Calls Tryd.prog 20 #[.int .i64 a1] w fun e w' => e = .returned (.string ⟨T1.toArray⟩) ∧ w.grownBy w' none) := fun w h => by rw [e1]; exact itoa_any a1 w b1.1 b1.2 h
  have I2 : Hid (∀ w, Tab w → Calls Tryd.prog 20 #[.int .i64 a2] w fun e w' => e = .returned (.string ⟨T2.toArray⟩) ∧ w.grownBy w' none) := fun w h => by rw [e2]; exact itoa_any a2 w b2.1 b2.2 h
  have I3 : Hid (∀ w, Tab w → Calls Tryd.prog 20 #[.int .i64 a3] w fun e w' => e = .returned (.string ⟨T3.toArray⟩) ∧ w.grownBy w' none) := fun w h => by rw [e3]; exact itoa_any a3 w b3.1 b3.2 h
  obtain ⟨R, hR⟩ : ∃ R, R = textV ⟨a1, a2, a3, a4.data.toList, a5.data.toList⟩ := ⟨_, rfl⟩
  rw [← hR]
  have HR : Hid (R = X4 ++ (optT 45 a4.data.toList ++ optT 43 a5.data.toList)) := by show R = _; rw [hR, hx]
  clear e1 e2 e3 hx b1 b2 b3 hR
  go_enter Tryd.func8, Tryd.ntmps8
  go_wp2
  obtain ⟨W, hW⟩ : ∃ W, w.alloc (.cells #[.int .i64 a1, .int .i64 a2, .int .i64 a3, .string a4, .string a5] 25) = W := ⟨_, rfl⟩
  have HG : Hid (w.grownBy W none) := by show w.grownBy W none; rw [← hW]; exact gb_alloc (gb_refl w none) _
  obtain ⟨A, hA⟩ : ∃ A, w.heap.size = A := ⟨_, rfl⟩
  have STa : Hid (St A a1 a2 a3 a4 a5 W) := by
    show St A a1 a2 a3 a4 a5 W
    rw [← hW, ← hA]; exact st_row (t := 25) (heap_alloc_new w _)
  have tW : Tab W := tab_grow ht HG.out
  rw [hW, hA]
  clear hW hA ht
  have tWd : Tab W.drew := tW
  obtain ⟨s1, s2, s3, s4, s5⟩ := STa.out
  go_region_held3 (fun w' => w'.cell? ⟨A, 0, none⟩ = some (.int .i64 a1) ∧ w'.cell? ⟨A, 1, none⟩ = some (.int .i64 a2) ∧ w'.cell? ⟨A, 2, none⟩ = some (.int .i64 a3) ∧ w'.cell? ⟨A, 3, none⟩ = some (.string a4) ∧ w'.cell? ⟨A, 4, none⟩ = some (.string a5) ∧ Tab w') ((first | exact keepT (by assumption) (by assumption) | (refine ⟨?_, ?_, ?_, ?_, ?_, ?_⟩ <;> (first | (refine World.grownBy.cell (by assumption) ?_ (by simp); assumption) | exact tab_grow' (by assumption) (by assumption))) | go_keep)) (first | (go_at_call_of 20 a1; refine (I1.out _ (by first | assumption | exact tabOf (by assumption))).mono ?_; rintro e w1 ⟨rfl, hg1⟩) | (go_at_call_of 20 a2; refine (I2.out _ (by first | assumption | exact tabOf (by assumption))).mono ?_; rintro e w2 ⟨rfl, hg2⟩) | (go_at_call_of 20 a3; refine (I3.out _ (by first | assumption | exact tabOf (by assumption))).mono ?_; rintro e w3 ⟨rfl, hg3⟩))
  have hgs : W.grownBy w3 none := gb_trans (gb_trans (gb_undrew hg1) hg2) hg3
  replace HG : Hid (w.grownBy w3 none) := gb_trans HG.out hgs
  replace STa : Hid (St A a1 a2 a3 a4 a5 w3) := STa.out.grow hgs
  clear hgs hg1 hg2 hg3 s1 s2 s3 s4 s5 tW tWd I1 I2 I3 d1 d2 d3 d4
  obtain ⟨-, -, -, s4, s5⟩ := STa.out
  obtain ⟨P4, Y4, p4, y4, hY4, hY4l⟩ := opt_step 45 X4 a4 (by omega)
  by_cases z4 : a4.size = 0
  · have e4 := emp_t2 z4
    have o4 : optT 45 a4.data.toList = [] := by rw [List.length_eq_zero_iff.1 (show a4.data.toList.length = 0 by simpa using z4)]; rfl
    have HR4 : Hid (R = X4 ++ optT 43 a5.data.toList) := by show R = _; rw [HR.out, o4, List.nil_append]
    obtain ⟨P5, Y5, p5, y5, hY5, hY5l⟩ := opt_step 43 X4 a5 (by omega)
    clear p4 y4 hY4 hY4l o4 z4
    by_cases z5 : a5.size = 0
    · have e5 := emp_t2 z5
      have o5 : optT 43 a5.data.toList = [] := by rw [List.length_eq_zero_iff.1 (show a5.data.toList.length = 0 by simpa using z5)]; rfl
      have HZ : Hid (R = X4) := by show R = _; rw [HR4.out, o5, List.append_nil]
      clear o5 z5 p5 y5 hY5 hY5l
      go_wp2
      go_ret
      exact ⟨ret_str HZ.out.symm, HG.out⟩
    · have e5 := emp_f2 z5
      have o5 : X4 ++ optT 43 a5.data.toList = Y5 := by unfold optT; rw [if_neg (fun e => z5 (by show a5.data.size = 0; rw [← Array.length_toList, e]; rfl)), hY5]
      have HZ : Hid (R = Y5) := by show R = _; rw [HR4.out, o5]
      clear o5 z5 hY5 hY5l
      go_wp2
      go_ret
      exact ⟨ret_str HZ.out.symm, HG.out⟩
  · have e4 := emp_f2 z4
    have o4 : X4 ++ (optT 45 a4.data.toList ++ optT 43 a5.data.toList) = Y4 ++ optT 43 a5.data.toList := by
      rw [← List.append_assoc, hY4]; congr 1; unfold optT; rw [if_neg (fun e => z4 (by show a4.data.size = 0; rw [← Array.length_toList, e]; rfl))]
    have HR4 : Hid (R = Y4 ++ optT 43 a5.data.toList) := by show R = _; rw [HR.out, o4]
    obtain ⟨P5, Y5, p5, y5, hY5, hY5l⟩ := opt_step 43 Y4 a5 (by omega)
    clear hY4 hY4l o4 z4
    by_cases z5 : a5.size = 0
    · have e5 := emp_t2 z5
      have o5 : optT 43 a5.data.toList = [] := by rw [List.length_eq_zero_iff.1 (show a5.data.toList.length = 0 by simpa using z5)]; rfl
      have HZ : Hid (R = Y4) := by show R = _; rw [HR4.out, o5, List.append_nil]
      clear o5 z5 p5 y5 hY5 hY5l
      go_wp2
      go_ret
      exact ⟨ret_str HZ.out.symm, HG.out⟩
    · have e5 := emp_f2 z5
      have o5 : Y4 ++ optT 43 a5.data.toList = Y5 := by unfold optT; rw [if_neg (fun e => z5 (by show a5.data.size = 0; rw [← Array.length_toList, e]; rfl)), hY5]
      have HZ : Hid (R = Y5) := by show R = _; rw [HR4.out, o5]
      clear o5 z5 hY5 hY5l
      go_wp2
      go_ret
      exact ⟨ret_str HZ.out.symm, HG.out⟩

end Go.Proofs.YtlfekpgoibgplaaDoor
