/-
  A list of spans among the arguments: opened, weighed.
-/
import Derived.Test.YtffogcjlpojpdaaDoorKv
import Derived.Test.YtffogcjlpojpdaaDoorSf
import Derived.Deep.Slices
import Derived.Carry
import Derived.DataReads
namespace Go.Proofs.YtffogcjlpojpdaaDoor
open Go.ChangeShapes Go.WideShapes Go.ChangeAt Go.RowKit Go.Joins
set_option linter.unusedVariables false

instance : Inhabited Sp := ⟨⟨0, 0, 0, ⟨#[]⟩, ⟨#[]⟩, 0, 0, 0, ⟨#[]⟩, ⟨#[]⟩, false⟩⟩
theorem cellsSp : Tryd.prog.cellsOf 50 = 11 := by kernel_rfl
def datS {H : Type} (s : Sp) : DataW H := .agg [datV s.f1 s.f2 s.f3 s.f4 s.f5, datV s.t1 s.t2 s.t3 s.t4 s.t5, .lit (.bool s.o)]

set_option maxRecDepth 100000 in
set_option maxHeartbeats 800000 in
theorem ver_cells {H : Type} {enc : TypeId × Value → H} {w : World} {base : Nat} {spare : Nat → Bool} {held : Bool} {fuel : Nat} {c0 c1 c2 c3 c4 : Value} {x : DataW H × List MemPlace}
    (h : DataW.trod enc Tryd.prog w base spare held fuel 23 [c0, c1, c2, c3, c4] = some x) :
    ∃ (a1 a2 a3 : Int) (a4 a5 : ByteArray), c0 = .int .i64 a1 ∧ c1 = .int .i64 a2 ∧ c2 = .int .i64 a3 ∧ c3 = .string a4 ∧ c4 = .string a5 ∧ x = (datV a1 a2 a3 a4 a5, []) := by
  have hu := Tryd.underlying23
  obtain ⟨xs, n, _, hx, hl, hlen, hfs⟩ := DataW.trod_struct hu h
  match xs, hlen with
  | [y0, y1, y2, y3, y4], _ =>
    have k3 : Tryd.prog.cellsOf 3 = 1 := by kernel_rfl
    have k9 : Tryd.prog.cellsOf 9 = 1 := by kernel_rfl
    have g0 := hfs 0 _ rfl
    have g1 := hfs 1 _ rfl
    have g2 := hfs 2 _ rfl
    have g3 := hfs 3 _ rfl
    have g4 := hfs 4 _ rfl
    simp [k3, k9] at g0 g1 g2 g3 g4
    obtain ⟨a1, e1, rfl, w1⟩ := DataW.trod_int Tryd.underlying3 g0
    obtain ⟨a2, e2, rfl, w2⟩ := DataW.trod_int Tryd.underlying3 g1
    obtain ⟨a3, e3, rfl, w3⟩ := DataW.trod_int Tryd.underlying3 g2
    obtain ⟨a4, e4, rfl, w4⟩ := DataW.trod_string Tryd.underlying9 g3
    obtain ⟨a5, e5, rfl, w5⟩ := DataW.trod_string Tryd.underlying9 g4
    simp at e1 e2 e3 e4 e5
    exact ⟨a1, a2, a3, a4, a5, e1, e2, e3, e4, e5, by rw [hx]; rfl⟩

theorem list11 {α : Type} {cs : List α} (h : cs.length = 11) : ∃ c0 c1 c2 c3 c4 c5 c6 c7 c8 c9 c10, cs = [c0, c1, c2, c3, c4, c5, c6, c7, c8, c9, c10] := by
  match cs, h with
  | [c0, c1, c2, c3, c4, c5, c6, c7, c8, c9, c10], _ => exact ⟨c0, c1, c2, c3, c4, c5, c6, c7, c8, c9, c10, rfl⟩

set_option maxRecDepth 100000 in
set_option maxHeartbeats 800000 in
theorem span_cells {H : Type} {enc : TypeId × Value → H} {w : World} {base : Nat} {spare : Nat → Bool} {held : Bool} {fuel : Nat} {cs : List Value} {x : DataW H × List MemPlace}
    (h : DataW.trod enc Tryd.prog w base spare held fuel 50 cs = some x) : ∃ s : Sp, cs = spC s ∧ x = (datS s, []) := by
  have hu := Tryd.underlying50
  obtain ⟨xs, n, _, hx, hl, hlen, hfs⟩ := DataW.trod_struct hu h
  obtain ⟨c0, c1, c2, c3, c4, c5, c6, c7, c8, c9, c10, rfl⟩ := list11 (hl.trans cellsSp)
  match xs, hlen with
  | [y0, y1, y2], _ =>
    have k4 : Tryd.prog.cellsOf 4 = 1 := by kernel_rfl
    have g0 := hfs 0 _ rfl
    have g1 := hfs 1 _ rfl
    have g2 := hfs 2 _ rfl
    simp [cellsVer, k4] at g0 g1 g2
    obtain ⟨a1, a2, a3, a4, a5, rfl, rfl, rfl, rfl, rfl, rfl⟩ := ver_cells g0
    obtain ⟨b1, b2, b3, b4, b5, rfl, rfl, rfl, rfl, rfl, rfl⟩ := ver_cells g1
    obtain ⟨o, e, rfl⟩ := DataW.trod_bool Tryd.underlying4 g2
    simp at e
    subst e
    exact ⟨⟨a1, a2, a3, a4, a5, b1, b2, b3, b4, b5, o⟩, rfl, by rw [hx]; rfl⟩

theorem bulk_span {H : Type} (s : Sp) : s.f4.size ≤ Rows.uptoBulk (datS (H := H) s) ∧ s.f5.size ≤ Rows.uptoBulk (datS (H := H) s) ∧ s.t4.size ≤ Rows.uptoBulk (datS (H := H) s) ∧ s.t5.size ≤ Rows.uptoBulk (datS (H := H) s) ∧ 1 ≤ Rows.uptoBulk (datS (H := H) s) := by
  simp only [datS, datV, Rows.uptoBulk, Rows.uptoBulkAll, Array.length_toList]
  have e1 : s.f4.data.size = s.f4.size := rfl
  have e2 : s.f5.data.size = s.f5.size := rfl
  have e3 : s.t4.data.size = s.t4.size := rfl
  have e4 : s.t5.data.size = s.t5.size := rfl
  omega
theorem bulk_list {H : Type} (L : List Sp) : L.length ≤ Rows.uptoBulkAll (L.map (datS (H := H))) ∧ ∀ s ∈ L, Rows.uptoBulk (datS (H := H) s) ≤ Rows.uptoBulkAll (L.map (datS (H := H))) := by
  induction L with
  | nil => exact ⟨by simp, by simp⟩
  | cons s L ih =>
    have h := (bulk_span (H := H) s).2.2.2.2
    simp only [List.map_cons, Rows.uptoBulkAll, List.length_cons]
    refine ⟨by omega, fun t ht => ?_⟩
    rcases List.mem_cons.1 ht with rfl | ht
    · omega
    · have := ih.2 t ht; omega

set_option maxRecDepth 100000 in
theorem open_spans {H : Type} {enc : TypeId × Value → H} {w : World} {base : Nat} {spare : Nat → Bool} {held : Bool} {r : Reach} {b0 : Nat} {v : Value} {d : DataW H} {p : List MemPlace}
    (hv : Value.okWide Tryd.prog w r b0 28 v) (h : DataW.Trod enc Tryd.prog w base spare held 28 v d p) :
    ∃ L : List Sp, SpS w v L ∧ L.length ≤ Rows.uptoBulk d ∧ ∀ s ∈ L, Rows.uptoBulk (datS (H := H) s) ≤ Rows.uptoBulk d := by
  have hu := Tryd.underlying28
  obtain ⟨a0, l0, c0, rfl⟩ := okWide_slice hu hv
  obtain ⟨fuel, hf⟩ := h
  rcases Deep.open_slice hu hf with ⟨hcs, hx⟩ | ⟨a, len, cap, m, n, D, Pl, hcs, hb, hl, hm, hmm, hx, hel⟩
  · simp [Value.cells] at hcs
    obtain ⟨rfl, rfl, rfl⟩ := hcs
    exact ⟨[], Or.inl ⟨rfl, rfl⟩, by simp, by simp⟩
  · simp [Value.cells] at hcs
    obtain ⟨rfl, rfl, rfl⟩ := hcs
    have hle : l0 ≤ m := by rw [hmm]; split <;> omega
    have hS : ∀ i, i < l0 → ∃ s : Sp, D i = datS s ∧ ∀ k u, (spC s)[k]? = some u → w.cell? (a.add (i * 11 + k)) = some u := by
      intro i hi
      obtain ⟨cs', h1, h2⟩ := hel i (by omega)
      obtain ⟨s, hc, hd⟩ := span_cells h2
      refine ⟨s, (congrArg Prod.fst hd), fun k u hu => ?_⟩
      rw [cellsSp] at h1
      obtain ⟨-, h4, h3⟩ := World.cells?_some h1
      have hk : k < 11 := (List.getElem?_eq_some_iff.1 hu).1
      have h5 := h3 k hk
      rw [Deep.add_add, hc, hu] at h5
      exact h5
    obtain ⟨S, hS⟩ := Deep.choose_lt hS
    have hlen : ((List.range l0).map S).length = l0 := by simp
    have hmap : (List.range l0).map D = ((List.range l0).map S).map (datS (H := H)) := by
      rw [List.map_map]
      exact List.map_congr_left fun i hi => (hS i (List.mem_range.1 hi)).1
    have hd : d = .slice (((List.range l0).map S).map (datS (H := H))) ((List.range (m - l0)).map fun j => D (l0 + j)) := by
      rw [← hmap]; exact congrArg Prod.fst hx
    have hbl := bulk_list (H := H) ((List.range l0).map S)
    refine ⟨(List.range l0).map S, Or.inr ⟨a, c0, by rw [hlen], by rw [hlen]; exact hl, fun i hi => ?_⟩, ?_, fun s hs => ?_⟩
    · have hi' : i < l0 := by rw [hlen] at hi; exact hi
      rw [List.getElem_map, List.getElem_range]
      exact elt_of_cells (hS i hi').2
    · rw [hd]; simp only [Rows.uptoBulk]; have := hbl.1; omega
    · rw [hd]; simp only [Rows.uptoBulk]; have := hbl.2 s hs; omega
end Go.Proofs.YtffogcjlpojpdaaDoor
