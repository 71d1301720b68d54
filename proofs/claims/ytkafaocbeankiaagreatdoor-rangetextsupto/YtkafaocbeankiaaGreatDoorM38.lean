import Derived.Test.YtkafaocbeankiaaGreatDoorM09
import Derived.Test.YtkafaocbeankiaaGreatDoorM35
import Derived.Test.YtkafaocbeankiaaGreatDoorM37
import Derived.Test.YtkafaocbeankiaaGreatDoorRows
import Derived.ProofKit
import Derived.OpenShut
import Derived.ShutString
import Derived.SizedLaws
import Derived.Lib.SmallJoins
import Derived.Test.YtkafaocbeankiaaGreatDoorM20
import Derived.Deep.Slices
import Derived.Carry
import Derived.DataReads
/-
  An errno as a number, walked.
-/
namespace Go.Proofs.YtkafaocbeankiaaGreatDoor
open Go.RowKit
set_option linter.unusedVariables false

set_option maxHeartbeats 400000 in
theorem lnum_any (n : Int) (w : World) : Calls Tryz.prog 7 #[.int .i64 n] w fun e w' => e = .returned (.int .i64 n) ∧ w' = w := by
  go_enter Tryz.func7, Tryz.ntmps7
  go_wp2
  go_ret
  exact ⟨rfl, rfl⟩
theorem lnum_gb (n : Int) (w : World) : Calls Tryz.prog 7 #[.int .i64 n] w fun e w' => e = .returned (.int .i64 n) ∧ w.grownBy w' none := by
  refine (lnum_any n w).mono ?_
  rintro e w' ⟨rfl, rfl⟩
  exact ⟨rfl, gb_refl _ _⟩

end Go.Proofs.YtkafaocbeankiaaGreatDoor

/-
  RangeTexts, walked.
-/
namespace Go.Proofs.YtkafaocbeankiaaGreatDoor
open Go.RowKit
set_option linter.unusedVariables false

theorem tog_lenT (h : V → Bool) (D : List V) : (tog h false D).length ≤ D.length := (tog_sub_list h D false).length_le
theorem outs_bndT (h : V → Bool) (L : List Sp) (hL : L.length ≤ 1048576) : (outs (tog h false (bnd L))).length ≤ 1048576 := by
  have h1 := outs_len2 (tog h false (bnd L))
  have h2 := tog_lenT h (bnd L)
  have h3 := bnd_len L []
  have h4 : (bnd L).length ≤ 2 * L.length := by unfold bnd; simpa using h3
  omega

set_option maxRecDepth 100000 in
set_option maxHeartbeats 1600000 in
theorem rtextsLaw (sl : Value) (L : List Sp) (w : World) (h : SpS w sl L) (ht : Tab w) (hL : L.length ≤ 1048576) (hsz : ∀ s ∈ L, smallS s) :
    Calls Tryz.prog 3 #[sl] w fun e w' => e = .returned (.bool true) ∧ w.grownBy w' none := by
  obtain ⟨σ, hσ⟩ : ∃ σ, L.all soundS = σ := ⟨_, rfl⟩
  have hbl := outs_bndT (holdsL L) L hL
  obtain ⟨N, hN⟩ : ∃ N, outs (tog (holdsL L) false (bnd L)) = N := ⟨_, rfl⟩
  rw [hN] at hbl
  have AL : Hid (∀ w v, SpS w v L → Calls Tryz.prog 5 #[v] w fun e w' => ∃ v, e = .returned v ∧ SpS w' v L ∧ w.grownBy w' none) := fun w v h => cSpans v L w h hL
  have BL : Hid (∀ w v, SpS w v L → Calls Tryz.prog 6 #[v] w fun e w' => e = .returned (.bool σ) ∧ w.grownBy w' none) := fun w v h => by rw [← hσ]; exact cSoundR v L w h hL hsz
  have CP : Hid (∀ w v, SpS w v L → Tab w → Calls Tryz.prog 4 #[v] w (PPost σ N w)) := fun w v h h2 => by rw [← hσ]; exact textP_any v L N w h h2 hN hL hbl hsz
  have CR : Hid ((∀ s ∈ N, NSp s) → ∀ w v, SpS w v L → Calls Tryz.prog 8 #[v] w fun e w' => e = .returned (.string ⟨(rText N).toArray⟩) ∧ w.grownBy w' none) := fun hns w v h => rangeText_any v L N w h hN hns hL hbl hsz
  have CN : Hid (∀ E w, Calls Tryz.prog 7 #[.int .i64 E] w fun e w' => e = .returned (.int .i64 E) ∧ w.grownBy w' none) := fun E w => lnum_gb E w
  have HA : Hid (SpS w sl L) := h
  have HT : Hid (Tab w) := ht
  clear h ht hL hsz hσ hN hbl
  go_enter Tryz.func3, Tryz.ntmps3
  go_wp2_with (first | (go_at_call 5; refine (AL.out _ _ HA.out).mono ?_))
  rintro e w1 ⟨m, rfl, hm, hg⟩
  have HG : Hid (w.grownBy w1 none) := hg
  have HM : Hid (SpS w1 m L) := hm
  have HT1 : Hid (Tab w1) := tab_grow HT.out hg
  replace HA : Hid (SpS w1 sl L) := HA.out.grow hg
  clear hg hm HT
  go_wp2_with (first | (go_at_call 4; refine (CP.out _ _ HM.out HT1.out).mono ?_))
  rintro e w2 ⟨hg, hn⟩
  replace HG : Hid (w.grownBy w2 none) := gb_trans HG.out hg
  replace HA : Hid (SpS w2 sl L) := HA.out.grow hg
  clear hg HM HT1
  rcases hn with ⟨rfl, rfl⟩ | ⟨rfl, rfl, hns⟩
  · go_wp2_with (first | (go_at_call 6; refine (BL.out _ _ HA.out).mono ?_; rintro e w3 ⟨rfl, hg3⟩) | (go_at_call 7; refine (CN.out _ _).mono ?_; rintro e w4 ⟨rfl, hg4⟩))
    go_ret
    exact ⟨rfl, gb_trans HG.out (gb_trans hg3 hg4)⟩
  · have CRs : Hid (∀ w v, SpS w v L → Calls Tryz.prog 8 #[v] w fun e w' => e = .returned (.string ⟨(rText N).toArray⟩) ∧ w.grownBy w' none) := CR.out hns
    obtain ⟨R, hR⟩ : ∃ R : ByteArray, R = ⟨(rText N).toArray⟩ := ⟨_, rfl⟩
    rw [← hR] at CRs ⊢
    clear hns hR
    have q1 : (R.toList == R.toList) = true := by simp
    go_wp2_with (first | (go_at_call 6; refine (BL.out _ _ HA.out).mono ?_; rintro e w3 ⟨rfl, hg3⟩) | (go_at_call 8; refine (CRs.out _ _ (HA.out.grow hg3)).mono ?_; rintro e w4 ⟨rfl, hg4⟩) | (go_at_call 7; refine (CN.out _ _).mono ?_; rintro e w5 ⟨rfl, hg5⟩))
    go_ret
    exact ⟨rfl, gb_trans HG.out (gb_trans hg3 (gb_trans hg4 hg5))⟩
end Go.Proofs.YtkafaocbeankiaaGreatDoor

/-
  A version among the arguments: opened, shut, weighed.
-/
namespace Go.Proofs.YtkafaocbeankiaaGreatDoor
open Go.ChangeShapes Go.WideShapes Go.ChangeAt Go.RowKit Go.Joins
open Go.ChangeMaps (open_string shut_string)
set_option linter.unusedVariables false

theorem cellsVer : Tryz.prog.cellsOf 43 = 5 := by kernel_rfl
theorem array5 {α : Type} {cs : Array α} (h : cs.size = 5) : ∃ c0 c1 c2 c3 c4, cs = #[c0, c1, c2, c3, c4] := by
  obtain ⟨l⟩ := cs
  match l, h with
  | [c0, c1, c2, c3, c4], _ => exact ⟨c0, c1, c2, c3, c4, rfl⟩
/-- how a version reads -/
def datV {H : Type} (a1 a2 a3 : Int) (a4 a5 : ByteArray) : DataW H := .agg [.lit (.int .i64 a1), .lit (.int .i64 a2), .lit (.int .i64 a3), .lit (.string a4.data.toList), .lit (.string a5.data.toList)]
def wfV (a1 a2 a3 : Int) (a4 a5 : ByteArray) : Prop := (Lit.int .i64 a1).wf = true ∧ (Lit.int .i64 a2).wf = true ∧ (Lit.int .i64 a3).wf = true ∧ a4.size ≤ maxLen ∧ a5.size ≤ maxLen

set_option maxRecDepth 100000 in
set_option maxHeartbeats 800000 in
theorem open_ver {H : Type} {enc : TypeId × Value → H} {w : World} {base : Nat} {spare : Nat → Bool} {held : Bool} {r : Reach} {b0 : Nat} {v : Value} {d : DataW H} {p : List MemPlace}
    (hv : Value.okWide Tryz.prog w r b0 43 v) (h : DataW.Trod enc Tryz.prog w base spare held 43 v d p) :
    ∃ (a1 a2 a3 : Int) (a4 a5 : ByteArray), v = .agg #[.int .i64 a1, .int .i64 a2, .int .i64 a3, .string a4, .string a5] ∧ d = datV a1 a2 a3 a4 a5 ∧ p = [] ∧ wfV a1 a2 a3 a4 a5 := by
  have hu := Tryz.underlying43
  obtain ⟨cs, rfl, hsz⟩ := okWide_struct hu hv
  have hsz' : cs.size = 5 := by rw [hsz]; exact cellsVer
  obtain ⟨c0, c1, c2, c3, c4, rfl⟩ := array5 hsz'
  obtain ⟨fuel, hf⟩ := h
  obtain ⟨xs, n, _, hx, hl, hlen, hfs⟩ := DataW.trod_struct hu hf
  simp only [Prod.mk.injEq] at hx
  obtain ⟨rfl, rfl⟩ := hx
  match xs, hlen with
  | [y0, y1, y2, y3, y4], _ =>
    have k3 : Tryz.prog.cellsOf 3 = 1 := by kernel_rfl
    have k9 : Tryz.prog.cellsOf 9 = 1 := by kernel_rfl
    have g0 := hfs 0 _ rfl
    have g1 := hfs 1 _ rfl
    have g2 := hfs 2 _ rfl
    have g3 := hfs 3 _ rfl
    have g4 := hfs 4 _ rfl
    simp [Value.cells, k3, k9] at g0 g1 g2 g3 g4
    obtain ⟨a1, e1, rfl, w1⟩ := DataW.trod_int Tryz.underlying3 g0
    obtain ⟨a2, e2, rfl, w2⟩ := DataW.trod_int Tryz.underlying3 g1
    obtain ⟨a3, e3, rfl, w3⟩ := DataW.trod_int Tryz.underlying3 g2
    obtain ⟨a4, e4, rfl, w4⟩ := DataW.trod_string Tryz.underlying9 g3
    obtain ⟨a5, e5, rfl, w5⟩ := DataW.trod_string Tryz.underlying9 g4
    simp at e1 e2 e3 e4 e5
    subst e1 e2 e3 e4 e5
    exact ⟨a1, a2, a3, a4, a5, rfl, rfl, rfl, w1, w2, w3, w4, w5⟩

set_option maxRecDepth 100000 in
set_option maxHeartbeats 800000 in
theorem shut_ver {H : Type} {enc : TypeId × Value → H} {w : World} {base : Nat} {spare : Nat → Bool} {held : Bool} {a1 a2 a3 : Int} {a4 a5 : ByteArray} (h : wfV a1 a2 a3 a4 a5) :
    DataW.Trod enc Tryz.prog w base spare held 43 (.agg #[.int .i64 a1, .int .i64 a2, .int .i64 a3, .string a4, .string a5]) (datV a1 a2 a3 a4 a5) [] := by
  have hu := Tryz.underlying43
  have k3 : Tryz.prog.cellsOf 3 = 1 := by kernel_rfl
  have k9 : Tryz.prog.cellsOf 9 = 1 := by kernel_rfl
  have u3 := Tryz.underlying3
  have u9 := Tryz.underlying9
  obtain ⟨h1, h2, h3, h4, h5⟩ := h
  refine ⟨2, ?_⟩
  have := trod_struct_mk (enc := enc) (w := w) (base := base) (spare := spare) (held := held) (n := 1) (cs := [.int .i64 a1, .int .i64 a2, .int .i64 a3, .string a4, .string a5])
    (xs := [(.lit (.int .i64 a1), []), (.lit (.int .i64 a2), []), (.lit (.int .i64 a3), []), (.lit (.string a4.data.toList), []), (.lit (.string a5.data.toList), [])]) hu (by rw [cellsVer]; rfl) (by simp [k3, k9, DataW.trod, u3, u9, h1, h2, h3, h4, h5])
  simpa [Value.cells, datV] using this

theorem sized_ver {H : Type} {ts : List TypeId} {ds : List (DataW H)} (h : (DataW.weightsEach Tryz.prog ts ds).all (· ≤ reachBytes) = true) {j : Nat} {a1 a2 a3 : Int} {a4 a5 : ByteArray} (ht : ts[j]? = some 43) (hd : ds[j]? = some (datV a1 a2 a3 a4 a5)) :
    a4.size ≤ reachBytes ∧ a5.size ≤ reachBytes := by
  have hu := Tryz.underlying43
  constructor
  · have := List.all_eq_true.1 h _ (DataW.weights_mem_each ht hd a4.data.toList.length (by simp [datV, DataW.weights, DataW.weightsEach, hu]))
    simpa using this
  · have := List.all_eq_true.1 h _ (DataW.weights_mem_each ht hd a5.data.toList.length (by simp [datV, DataW.weights, DataW.weightsEach, hu]))
    simpa using this
theorem reach_small {n : Nat} (h : n ≤ reachBytes) : n < 2 ^ 62 := by have := reachBytes_lt; omega
end Go.Proofs.YtkafaocbeankiaaGreatDoor

/-
  A list of spans among the arguments: opened, weighed.
-/
namespace Go.Proofs.YtkafaocbeankiaaGreatDoor
open Go.ChangeShapes Go.WideShapes Go.ChangeAt Go.RowKit Go.Joins
set_option linter.unusedVariables false

instance : Inhabited Sp := ⟨⟨0, 0, 0, ⟨#[]⟩, ⟨#[]⟩, 0, 0, 0, ⟨#[]⟩, ⟨#[]⟩, false⟩⟩
theorem cellsSp : Tryz.prog.cellsOf 45 = 11 := by kernel_rfl
def datS {H : Type} (s : Sp) : DataW H := .agg [datV s.f1 s.f2 s.f3 s.f4 s.f5, datV s.t1 s.t2 s.t3 s.t4 s.t5, .lit (.bool s.o)]

set_option maxRecDepth 100000 in
set_option maxHeartbeats 800000 in
theorem ver_cells {H : Type} {enc : TypeId × Value → H} {w : World} {base : Nat} {spare : Nat → Bool} {held : Bool} {fuel : Nat} {c0 c1 c2 c3 c4 : Value} {x : DataW H × List MemPlace}
    (h : DataW.trod enc Tryz.prog w base spare held fuel 43 [c0, c1, c2, c3, c4] = some x) :
    ∃ (a1 a2 a3 : Int) (a4 a5 : ByteArray), c0 = .int .i64 a1 ∧ c1 = .int .i64 a2 ∧ c2 = .int .i64 a3 ∧ c3 = .string a4 ∧ c4 = .string a5 ∧ x = (datV a1 a2 a3 a4 a5, []) := by
  have hu := Tryz.underlying43
  obtain ⟨xs, n, _, hx, hl, hlen, hfs⟩ := DataW.trod_struct hu h
  match xs, hlen with
  | [y0, y1, y2, y3, y4], _ =>
    have k3 : Tryz.prog.cellsOf 3 = 1 := by kernel_rfl
    have k9 : Tryz.prog.cellsOf 9 = 1 := by kernel_rfl
    have g0 := hfs 0 _ rfl
    have g1 := hfs 1 _ rfl
    have g2 := hfs 2 _ rfl
    have g3 := hfs 3 _ rfl
    have g4 := hfs 4 _ rfl
    simp [k3, k9] at g0 g1 g2 g3 g4
    obtain ⟨a1, e1, rfl, w1⟩ := DataW.trod_int Tryz.underlying3 g0
    obtain ⟨a2, e2, rfl, w2⟩ := DataW.trod_int Tryz.underlying3 g1
    obtain ⟨a3, e3, rfl, w3⟩ := DataW.trod_int Tryz.underlying3 g2
    obtain ⟨a4, e4, rfl, w4⟩ := DataW.trod_string Tryz.underlying9 g3
    obtain ⟨a5, e5, rfl, w5⟩ := DataW.trod_string Tryz.underlying9 g4
    simp at e1 e2 e3 e4 e5
    exact ⟨a1, a2, a3, a4, a5, e1, e2, e3, e4, e5, by rw [hx]; rfl⟩

theorem list11 {α : Type} {cs : List α} (h : cs.length = 11) : ∃ c0 c1 c2 c3 c4 c5 c6 c7 c8 c9 c10, cs = [c0, c1, c2, c3, c4, c5, c6, c7, c8, c9, c10] := by
  match cs, h with
  | [c0, c1, c2, c3, c4, c5, c6, c7, c8, c9, c10], _ => exact ⟨c0, c1, c2, c3, c4, c5, c6, c7, c8, c9, c10, rfl⟩

set_option maxRecDepth 100000 in
set_option maxHeartbeats 800000 in
theorem span_cells {H : Type} {enc : TypeId × Value → H} {w : World} {base : Nat} {spare : Nat → Bool} {held : Bool} {fuel : Nat} {cs : List Value} {x : DataW H × List MemPlace}
    (h : DataW.trod enc Tryz.prog w base spare held fuel 45 cs = some x) : ∃ s : Sp, cs = spC s ∧ x = (datS s, []) := by
  have hu := Tryz.underlying45
  obtain ⟨xs, n, _, hx, hl, hlen, hfs⟩ := DataW.trod_struct hu h
  obtain ⟨c0, c1, c2, c3, c4, c5, c6, c7, c8, c9, c10, rfl⟩ := list11 (hl.trans cellsSp)
  match xs, hlen with
  | [y0, y1, y2], _ =>
    have k4 : Tryz.prog.cellsOf 4 = 1 := by kernel_rfl
    have g0 := hfs 0 _ rfl
    have g1 := hfs 1 _ rfl
    have g2 := hfs 2 _ rfl
    simp [cellsVer, k4] at g0 g1 g2
    obtain ⟨a1, a2, a3, a4, a5, rfl, rfl, rfl, rfl, rfl, rfl⟩ := ver_cells g0
    obtain ⟨b1, b2, b3, b4, b5, rfl, rfl, rfl, rfl, rfl, rfl⟩ := ver_cells g1
    obtain ⟨o, e, rfl⟩ := DataW.trod_bool Tryz.underlying4 g2
    simp at e
    subst e
    exact ⟨⟨a1, a2, a3, a4, a5, b1, b2, b3, b4, b5, o⟩, rfl, by rw [hx]; rfl⟩

theorem bulk_span {H : Type} (s : Sp) : s.f4.size ≤ Rows.uptoBulk (datS (H := H) s) ∧ s.f5.size ≤ Rows.uptoBulk (datS (H := H) s) ∧ s.t4.size ≤ Rows.uptoBulk (datS (H := H) s) ∧ s.t5.size ≤ Rows.uptoBulk (datS (H := H) s) ∧ 1 ≤ Rows.uptoBulk (datS (H := H) s) := by
  simp only [datS, datV, Rows.uptoBulk, Rows.uptoBulkAll, Array.length_toList]
  have e1 : s.f4.data.size = s.f4.size := rfl
  have e2 : s.f5.data.size = s.f5.size := rfl
  have e3 : s.t4.data.size = s.t4.size := rfl
  have e4 : s.t5.data.size = s.t5.size := rfl
  omega
theorem bulk_list {H : Type} (L : List Sp) : L.length ≤ Rows.uptoBulkAll (L.map (datS (H := H))) ∧ ∀ s ∈ L, Rows.uptoBulk (datS (H := H) s) ≤ Rows.uptoBulkAll (L.map (datS (H := H))) := by
  induction L with
  | nil => exact ⟨by simp, by simp⟩
  | cons s L ih =>
    have h := (bulk_span (H := H) s).2.2.2.2
    simp only [List.map_cons, Rows.uptoBulkAll, List.length_cons]
    refine ⟨by omega, fun t ht => ?_⟩
    rcases List.mem_cons.1 ht with rfl | ht
    · omega
    · have := ih.2 t ht; omega

set_option maxRecDepth 100000 in
theorem open_spans {H : Type} {enc : TypeId × Value → H} {w : World} {base : Nat} {spare : Nat → Bool} {held : Bool} {r : Reach} {b0 : Nat} {v : Value} {d : DataW H} {p : List MemPlace}
    (hv : Value.okWide Tryz.prog w r b0 22 v) (h : DataW.Trod enc Tryz.prog w base spare held 22 v d p) :
    ∃ L : List Sp, SpS w v L ∧ L.length ≤ Rows.uptoBulk d ∧ ∀ s ∈ L, Rows.uptoBulk (datS (H := H) s) ≤ Rows.uptoBulk d := by
  have hu := Tryz.underlying22
  obtain ⟨a0, l0, c0, rfl⟩ := okWide_slice hu hv
  obtain ⟨fuel, hf⟩ := h
  rcases Deep.open_slice hu hf with ⟨hcs, hx⟩ | ⟨a, len, cap, m, n, D, Pl, hcs, hb, hl, hm, hmm, hx, hel⟩
  · simp [Value.cells] at hcs
    obtain ⟨rfl, rfl, rfl⟩ := hcs
    exact ⟨[], Or.inl ⟨rfl, rfl⟩, by simp, by simp⟩
  · simp [Value.cells] at hcs
    obtain ⟨rfl, rfl, rfl⟩ := hcs
    have hle : l0 ≤ m := by rw [hmm]; split <;> omega
    have hS : ∀ i, i < l0 → ∃ s : Sp, D i = datS s ∧ ∀ k u, (spC s)[k]? = some u → w.cell? (a.add (i * 11 + k)) = some u := by
      intro i hi
      obtain ⟨cs', h1, h2⟩ := hel i (by omega)
      obtain ⟨s, hc, hd⟩ := span_cells h2
      refine ⟨s, (congrArg Prod.fst hd), fun k u hu => ?_⟩
      rw [cellsSp] at h1
      obtain ⟨-, h4, h3⟩ := World.cells?_some h1
      have hk : k < 11 := (List.getElem?_eq_some_iff.1 hu).1
      have h5 := h3 k hk
      rw [Deep.add_add, hc, hu] at h5
      exact h5
    obtain ⟨S, hS⟩ := Deep.choose_lt hS
    have hlen : ((List.range l0).map S).length = l0 := by simp
    have hmap : (List.range l0).map D = ((List.range l0).map S).map (datS (H := H)) := by
      rw [List.map_map]
      exact List.map_congr_left fun i hi => (hS i (List.mem_range.1 hi)).1
    have hd : d = .slice (((List.range l0).map S).map (datS (H := H))) ((List.range (m - l0)).map fun j => D (l0 + j)) := by
      rw [← hmap]; exact congrArg Prod.fst hx
    have hbl := bulk_list (H := H) ((List.range l0).map S)
    refine ⟨(List.range l0).map S, Or.inr ⟨a, c0, by rw [hlen], by rw [hlen]; exact hl, fun i hi => ?_⟩, ?_, fun s hs => ?_⟩
    · have hi' : i < l0 := by rw [hlen] at hi; exact hi
      rw [List.getElem_map, List.getElem_range]
      exact elt_of_cells (hS i hi').2
    · rw [hd]; simp only [Rows.uptoBulk]; have := hbl.1; omega
    · rw [hd]; simp only [Rows.uptoBulk]; have := hbl.2 s hs; omega
end Go.Proofs.YtkafaocbeankiaaGreatDoor
