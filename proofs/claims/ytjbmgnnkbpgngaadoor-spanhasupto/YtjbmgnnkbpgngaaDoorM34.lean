import Derived.Test.YtjbmgnnkbpgngaaDoorRows
import Derived.Test.YtjbmgnnkbpgngaaDoorM05
import Derived.ProofKit
import Derived.OpenShut
import Derived.ShutString
import Derived.SizedLaws
import Derived.Lib.SmallJoins
import Derived.Test.YtjbmgnnkbpgngaaDoorM16
import Derived.Deep.Slices
import Derived.Carry
import Derived.DataReads
import Derived.Test.YtjbmgnnkbpgngaaDoorM33
import Derived.Test.YtjbmgnnkbpgngaaDoorCards
import Derived.Test.YtjbmgnnkbpgngaaDoorTie
import Derived.Deep.DeepHandedRow
import Derived.Lib.LaidTab
/-
  A version among the arguments: opened, shut, weighed.
-/
namespace Go.Proofs.YtjbmgnnkbpgngaaDoor
open Go.ChangeShapes Go.WideShapes Go.ChangeAt Go.RowKit Go.Joins
open Go.ChangeMaps (open_string shut_string)
set_option linter.unusedVariables false

theorem cellsVer : Tryd.prog.cellsOf 24 = 5 := by kernel_rfl
theorem array5 {α : Type} {cs : Array α} (h : cs.size = 5) : ∃ c0 c1 c2 c3 c4, cs = #[c0, c1, c2, c3, c4] := by
  obtain ⟨l⟩ := cs
  match l, h with
  | [c0, c1, c2, c3, c4], _ => exact ⟨c0, c1, c2, c3, c4, rfl⟩
/-- how a version reads -/
def datV {H : Type} (a1 a2 a3 : Int) (a4 a5 : ByteArray) : DataW H := .agg [.lit (.int .i64 a1), .lit (.int .i64 a2), .lit (.int .i64 a3), .lit (.string a4.data.toList), .lit (.string a5.data.toList)]
def wfV (a1 a2 a3 : Int) (a4 a5 : ByteArray) : Prop := (Lit.int .i64 a1).wf = true ∧ (Lit.int .i64 a2).wf = true ∧ (Lit.int .i64 a3).wf = true ∧ a4.size ≤ maxLen ∧ a5.size ≤ maxLen

set_option maxRecDepth 100000 in
set_option maxHeartbeats 800000 in
theorem open_ver {H : Type} {enc : TypeId × Value → H} {w : World} {base : Nat} {spare : Nat → Bool} {held : Bool} {r : Reach} {b0 : Nat} {v : Value} {d : DataW H} {p : List MemPlace}
    (hv : Value.okWide Tryd.prog w r b0 24 v) (h : DataW.Trod enc Tryd.prog w base spare held 24 v d p) :
    ∃ (a1 a2 a3 : Int) (a4 a5 : ByteArray), v = .agg #[.int .i64 a1, .int .i64 a2, .int .i64 a3, .string a4, .string a5] ∧ d = datV a1 a2 a3 a4 a5 ∧ p = [] ∧ wfV a1 a2 a3 a4 a5 := by
  have hu := Tryd.underlying24
  obtain ⟨cs, rfl, hsz⟩ := okWide_struct hu hv
  have hsz' : cs.size = 5 := by rw [hsz]; exact cellsVer
  obtain ⟨c0, c1, c2, c3, c4, rfl⟩ := array5 hsz'
  obtain ⟨fuel, hf⟩ := h
  obtain ⟨xs, n, _, hx, hl, hlen, hfs⟩ := DataW.trod_struct hu hf
  simp only [Prod.mk.injEq] at hx
  obtain ⟨rfl, rfl⟩ := hx
  match xs, hlen with
  | [y0, y1, y2, y3, y4], _ =>
    have k3 : Tryd.prog.cellsOf 3 = 1 := by kernel_rfl
    have k9 : Tryd.prog.cellsOf 9 = 1 := by kernel_rfl
    have g0 := hfs 0 _ rfl
    have g1 := hfs 1 _ rfl
    have g2 := hfs 2 _ rfl
    have g3 := hfs 3 _ rfl
    have g4 := hfs 4 _ rfl
    simp [Value.cells, k3, k9] at g0 g1 g2 g3 g4
    obtain ⟨a1, e1, rfl, w1⟩ := DataW.trod_int Tryd.underlying3 g0
    obtain ⟨a2, e2, rfl, w2⟩ := DataW.trod_int Tryd.underlying3 g1
    obtain ⟨a3, e3, rfl, w3⟩ := DataW.trod_int Tryd.underlying3 g2
    obtain ⟨a4, e4, rfl, w4⟩ := DataW.trod_string Tryd.underlying9 g3
    obtain ⟨a5, e5, rfl, w5⟩ := DataW.trod_string Tryd.underlying9 g4
    simp at e1 e2 e3 e4 e5
    subst e1 e2 e3 e4 e5
    exact ⟨a1, a2, a3, a4, a5, rfl, rfl, rfl, w1, w2, w3, w4, w5⟩

set_option maxRecDepth 100000 in
set_option maxHeartbeats 800000 in
theorem shut_ver {H : Type} {enc : TypeId × Value → H} {w : World} {base : Nat} {spare : Nat → Bool} {held : Bool} {a1 a2 a3 : Int} {a4 a5 : ByteArray} (h : wfV a1 a2 a3 a4 a5) :
    DataW.Trod enc Tryd.prog w base spare held 24 (.agg #[.int .i64 a1, .int .i64 a2, .int .i64 a3, .string a4, .string a5]) (datV a1 a2 a3 a4 a5) [] := by
  have hu := Tryd.underlying24
  have k3 : Tryd.prog.cellsOf 3 = 1 := by kernel_rfl
  have k9 : Tryd.prog.cellsOf 9 = 1 := by kernel_rfl
  have u3 := Tryd.underlying3
  have u9 := Tryd.underlying9
  obtain ⟨h1, h2, h3, h4, h5⟩ := h
  refine ⟨2, ?_⟩
  have := trod_struct_mk (enc := enc) (w := w) (base := base) (spare := spare) (held := held) (n := 1) (cs := [.int .i64 a1, .int .i64 a2, .int .i64 a3, .string a4, .string a5])
    (xs := [(.lit (.int .i64 a1), []), (.lit (.int .i64 a2), []), (.lit (.int .i64 a3), []), (.lit (.string a4.data.toList), []), (.lit (.string a5.data.toList), [])]) hu (by rw [cellsVer]; rfl) (by simp [k3, k9, DataW.trod, u3, u9, h1, h2, h3, h4, h5])
  simpa [Value.cells, datV] using this

theorem sized_ver {H : Type} {ts : List TypeId} {ds : List (DataW H)} (h : (DataW.weightsEach Tryd.prog ts ds).all (· ≤ reachBytes) = true) {j : Nat} {a1 a2 a3 : Int} {a4 a5 : ByteArray} (ht : ts[j]? = some 24) (hd : ds[j]? = some (datV a1 a2 a3 a4 a5)) :
    a4.size ≤ reachBytes ∧ a5.size ≤ reachBytes := by
  have hu := Tryd.underlying24
  constructor
  · have := List.all_eq_true.1 h _ (DataW.weights_mem_each ht hd a4.data.toList.length (by simp [datV, DataW.weights, DataW.weightsEach, hu]))
    simpa using this
  · have := List.all_eq_true.1 h _ (DataW.weights_mem_each ht hd a5.data.toList.length (by simp [datV, DataW.weights, DataW.weightsEach, hu]))
    simpa using this
theorem reach_small {n : Nat} (h : n ≤ reachBytes) : n < 2 ^ 62 := by have := reachBytes_lt; omega
end Go.Proofs.YtjbmgnnkbpgngaaDoor

/-
  A list of spans among the arguments: opened, weighed.
-/
namespace Go.Proofs.YtjbmgnnkbpgngaaDoor
open Go.ChangeShapes Go.WideShapes Go.ChangeAt Go.RowKit Go.Joins
set_option linter.unusedVariables false

instance : Inhabited Sp := ⟨⟨0, 0, 0, ⟨#[]⟩, ⟨#[]⟩, 0, 0, 0, ⟨#[]⟩, ⟨#[]⟩, false⟩⟩
theorem cellsSp : Tryd.prog.cellsOf 43 = 11 := by kernel_rfl
def datS {H : Type} (s : Sp) : DataW H := .agg [datV s.f1 s.f2 s.f3 s.f4 s.f5, datV s.t1 s.t2 s.t3 s.t4 s.t5, .lit (.bool s.o)]

set_option maxRecDepth 100000 in
set_option maxHeartbeats 800000 in
theorem ver_cells {H : Type} {enc : TypeId × Value → H} {w : World} {base : Nat} {spare : Nat → Bool} {held : Bool} {fuel : Nat} {c0 c1 c2 c3 c4 : Value} {x : DataW H × List MemPlace}
    (h : DataW.trod enc Tryd.prog w base spare held fuel 24 [c0, c1, c2, c3, c4] = some x) :
    ∃ (a1 a2 a3 : Int) (a4 a5 : ByteArray), c0 = .int .i64 a1 ∧ c1 = .int .i64 a2 ∧ c2 = .int .i64 a3 ∧ c3 = .string a4 ∧ c4 = .string a5 ∧ x = (datV a1 a2 a3 a4 a5, []) := by
  have hu := Tryd.underlying24
  obtain ⟨xs, n, _, hx, hl, hlen, hfs⟩ := DataW.trod_struct hu h
  match xs, hlen with
  | [y0, y1, y2, y3, y4], _ =>
    have k3 : Tryd.prog.cellsOf 3 = 1 := by kernel_rfl
    have k9 : Tryd.prog.cellsOf 9 = 1 := by kernel_rfl
    have g0 := hfs 0 _ rfl
    have g1 := hfs 1 _ rfl
    have g2 := hfs 2 _ rfl
    have g3 := hfs 3 _ rfl
    have g4 := hfs 4 _ rfl
    simp [k3, k9] at g0 g1 g2 g3 g4
    obtain ⟨a1, e1, rfl, w1⟩ := DataW.trod_int Tryd.underlying3 g0
    obtain ⟨a2, e2, rfl, w2⟩ := DataW.trod_int Tryd.underlying3 g1
    obtain ⟨a3, e3, rfl, w3⟩ := DataW.trod_int Tryd.underlying3 g2
    obtain ⟨a4, e4, rfl, w4⟩ := DataW.trod_string Tryd.underlying9 g3
    obtain ⟨a5, e5, rfl, w5⟩ := DataW.trod_string Tryd.underlying9 g4
    simp at e1 e2 e3 e4 e5
    exact ⟨a1, a2, a3, a4, a5, e1, e2, e3, e4, e5, by rw [hx]; rfl⟩

theorem list11 {α : Type} {cs : List α} (h : cs.length = 11) : ∃ c0 c1 c2 c3 c4 c5 c6 c7 c8 c9 c10, cs = [c0, c1, c2, c3, c4, c5, c6, c7, c8, c9, c10] := by
  match cs, h with
  | [c0, c1, c2, c3, c4, c5, c6, c7, c8, c9, c10], _ => exact ⟨c0, c1, c2, c3, c4, c5, c6, c7, c8, c9, c10, rfl⟩

set_option maxRecDepth 100000 in
set_option maxHeartbeats 800000 in
theorem span_cells {H : Type} {enc : TypeId × Value → H} {w : World} {base : Nat} {spare : Nat → Bool} {held : Bool} {fuel : Nat} {cs : List Value} {x : DataW H × List MemPlace}
    (h : DataW.trod enc Tryd.prog w base spare held fuel 43 cs = some x) : ∃ s : Sp, cs = spC s ∧ x = (datS s, []) := by
  have hu := Tryd.underlying43
  obtain ⟨xs, n, _, hx, hl, hlen, hfs⟩ := DataW.trod_struct hu h
  obtain ⟨c0, c1, c2, c3, c4, c5, c6, c7, c8, c9, c10, rfl⟩ := list11 (hl.trans cellsSp)
  match xs, hlen with
  | [y0, y1, y2], _ =>
    have k4 : Tryd.prog.cellsOf 4 = 1 := by kernel_rfl
    have g0 := hfs 0 _ rfl
    have g1 := hfs 1 _ rfl
    have g2 := hfs 2 _ rfl
    simp [cellsVer, k4] at g0 g1 g2
    obtain ⟨a1, a2, a3, a4, a5, rfl, rfl, rfl, rfl, rfl, rfl⟩ := ver_cells g0
    obtain ⟨b1, b2, b3, b4, b5, rfl, rfl, rfl, rfl, rfl, rfl⟩ := ver_cells g1
    obtain ⟨o, e, rfl⟩ := DataW.trod_bool Tryd.underlying4 g2
    simp at e
    subst e
    exact ⟨⟨a1, a2, a3, a4, a5, b1, b2, b3, b4, b5, o⟩, rfl, by rw [hx]; rfl⟩

theorem bulk_span {H : Type} (s : Sp) : s.f4.size ≤ Rows.uptoBulk (datS (H := H) s) ∧ s.f5.size ≤ Rows.uptoBulk (datS (H := H) s) ∧ s.t4.size ≤ Rows.uptoBulk (datS (H := H) s) ∧ s.t5.size ≤ Rows.uptoBulk (datS (H := H) s) ∧ 1 ≤ Rows.uptoBulk (datS (H := H) s) := by
  simp only [datS, datV, Rows.uptoBulk, Rows.uptoBulkAll, Array.length_toList]
  have e1 : s.f4.data.size = s.f4.size := rfl
  have e2 : s.f5.data.size = s.f5.size := rfl
  have e3 : s.t4.data.size = s.t4.size := rfl
  have e4 : s.t5.data.size = s.t5.size := rfl
  omega
theorem bulk_list {H : Type} (L : List Sp) : L.length ≤ Rows.uptoBulkAll (L.map (datS (H := H))) ∧ ∀ s ∈ L, Rows.uptoBulk (datS (H := H) s) ≤ Rows.uptoBulkAll (L.map (datS (H := H))) := by
  induction L with
  | nil => exact ⟨by simp, by simp⟩
  | cons s L ih =>
    have h := (bulk_span (H := H) s).2.2.2.2
    simp only [List.map_cons, Rows.uptoBulkAll, List.length_cons]
    refine ⟨by omega, fun t ht => ?_⟩
    rcases List.mem_cons.1 ht with rfl | ht
    · omega
    · have := ih.2 t ht; omega

set_option maxRecDepth 100000 in
theorem open_spans {H : Type} {enc : TypeId × Value → H} {w : World} {base : Nat} {spare : Nat → Bool} {held : Bool} {r : Reach} {b0 : Nat} {v : Value} {d : DataW H} {p : List MemPlace}
    (hv : Value.okWide Tryd.prog w r b0 22 v) (h : DataW.Trod enc Tryd.prog w base spare held 22 v d p) :
    ∃ L : List Sp, SpS w v L ∧ L.length ≤ Rows.uptoBulk d ∧ ∀ s ∈ L, Rows.uptoBulk (datS (H := H) s) ≤ Rows.uptoBulk d := by
  have hu := Tryd.underlying22
  obtain ⟨a0, l0, c0, rfl⟩ := okWide_slice hu hv
  obtain ⟨fuel, hf⟩ := h
  rcases Deep.open_slice hu hf with ⟨hcs, hx⟩ | ⟨a, len, cap, m, n, D, Pl, hcs, hb, hl, hm, hmm, hx, hel⟩
  · simp [Value.cells] at hcs
    obtain ⟨rfl, rfl, rfl⟩ := hcs
    exact ⟨[], Or.inl ⟨rfl, rfl⟩, by simp, by simp⟩
  · simp [Value.cells] at hcs
    obtain ⟨rfl, rfl, rfl⟩ := hcs
    have hle : l0 ≤ m := by rw [hmm]; split <;> omega
    have hS : ∀ i, i < l0 → ∃ s : Sp, D i = datS s ∧ ∀ k u, (spC s)[k]? = some u → w.cell? (a.add (i * 11 + k)) = some u := by
      intro i hi
      obtain ⟨cs', h1, h2⟩ := hel i (by omega)
      obtain ⟨s, hc, hd⟩ := span_cells h2
      refine ⟨s, (congrArg Prod.fst hd), fun k u hu => ?_⟩
      rw [cellsSp] at h1
      obtain ⟨-, h4, h3⟩ := World.cells?_some h1
      have hk : k < 11 := (List.getElem?_eq_some_iff.1 hu).1
      have h5 := h3 k hk
      rw [Deep.add_add, hc, hu] at h5
      exact h5
    obtain ⟨S, hS⟩ := Deep.choose_lt hS
    have hlen : ((List.range l0).map S).length = l0 := by simp
    have hmap : (List.range l0).map D = ((List.range l0).map S).map (datS (H := H)) := by
      rw [List.map_map]
      exact List.map_congr_left fun i hi => (hS i (List.mem_range.1 hi)).1
    have hd : d = .slice (((List.range l0).map S).map (datS (H := H))) ((List.range (m - l0)).map fun j => D (l0 + j)) := by
      rw [← hmap]; exact congrArg Prod.fst hx
    have hbl := bulk_list (H := H) ((List.range l0).map S)
    refine ⟨(List.range l0).map S, Or.inr ⟨a, c0, by rw [hlen], by rw [hlen]; exact hl, fun i hi => ?_⟩, ?_, fun s hs => ?_⟩
    · have hi' : i < l0 := by rw [hlen] at hi; exact hi
      rw [List.getElem_map, List.getElem_range]
      exact elt_of_cells (hS i hi').2
    · rw [hd]; simp only [Rows.uptoBulk]; have := hbl.1; omega
    · rw [hd]; simp only [Rows.uptoBulk]; have := hbl.2 s hs; omega
end Go.Proofs.YtjbmgnnkbpgngaaDoor

/-
  SpanHas: the row and its card.
-/
namespace Go.Proofs.YtjbmgnnkbpgngaaDoor
open Go.ChangeShapes Go.WideShapes Go.ChangeAt Go.RowKit
open Go.ChangeMaps (open_string shut_string)
set_option linter.unusedVariables false

theorem own : ownKnob Tryd.prog.godebug = none := by kernel_rfl
theorem laidOut : laidOutB Tryd.prog = true := by kernel_rfl

set_option maxRecDepth 100000 in
theorem spanHasContract (H : Type) (enc : TypeId × Value → H) (W : World) (base : Nat) (args : Array Value) (ds gs : List (DataW H)) (before : List MemPlace)
    (hval : ∀ (j : Nat) t v, Tryd.f3.params[j]? = some t → args[j]? = some v → Value.okWide Tryd.prog W .any base t v)
    (hW : DataW.Whole enc Tryd.prog Tryd.f3.params.toList Rows.spanHasSpec.vars false W args.toList ds gs before) (hL : laidMetH Tryd.prog Rows.spanHasUptoRow.laid W)
    (hcond : Rows.uptoSmall H (ds ++ gs) = true) :
    Calls Tryd.prog 3 args W fun e W' => ∃ v, e = .returned v ∧ Rows.spanHasSpec.post enc Tryd.prog Tryd.f3 false true false false W args v W' := by
  have hW' := hW
  obtain ⟨p, q, hA0, hV, rfl, hfz, hnd⟩ := hW
  have hA : DataW.TrodAll enc Tryd.prog W 0 (fun _ => true) true Tryd.f3.params.toList args.toList ds p := hA0
  rw [Tryd.params3] at hA hval
  obtain ⟨v0, vs0, d0, ds0, p0, q0, hargs0, rfl, rfl, h0, r0⟩ := trodAll_cons hA
  obtain ⟨v1, vs1, d1, ds1, p1, q1, hargs1, rfl, rfl, h1, r1⟩ := trodAll_cons r0
  obtain ⟨v2, vs2, d2, ds2, p2, q2, hargs2, rfl, rfl, h2, r2⟩ := trodAll_cons r1
  obtain ⟨rfl, rfl, rfl⟩ := trodAll_nil r2
  obtain rfl : args = #[v0, v1, v2] := by cases args; simp_all
  obtain ⟨rfl, rfl⟩ := trodVars_none hV
  obtain ⟨L0, hS0, hN0, hE0⟩ := open_spans (hval 0 22 v0 rfl rfl) h0
  obtain ⟨L1, hS1, hN1, hE1⟩ := open_spans (hval 1 22 v1 rfl rfl) h1
  obtain ⟨c1, c2, c3, c4, c5, rfl, rfl, rfl, wc⟩ := open_ver (hval 2 24 v2 rfl rfl) h2
  have hb := of_decide_eq_true hcond
  simp only [List.append_nil, datV, Rows.uptoBulkAll, Rows.uptoBulk, Array.length_toList] at hb
  have sa : Rows.uptoBulk d0 ≤ 1048576 := by omega
  have sb : Rows.uptoBulk d1 ≤ 1048576 := by omega
  have sc : c4.size ≤ 1048576 ∧ c5.size ≤ 1048576 := by have e4 : c4.data.size = c4.size := rfl; have e5 : c5.data.size = c5.size := rfl; omega
  clear hb hA0
  simp only [List.append_nil] at hW'
  refine (hasLaw v0 v1 L0 L1 c1 c2 c3 c4 c5 W hS0 hS1 (by omega) (fun s hs => by have q := bulk_span (H := H) s; have q2 := hE0 s hs; exact ⟨by omega, by omega, by omega, by omega⟩) (by omega) (fun s hs => by have q := bulk_span (H := H) s; have q2 := hE1 s hs; exact ⟨by omega, by omega, by omega, by omega⟩) sc.1).mono fun e W' ⟨he, hgb⟩ => ?_
  subst he
  exact ⟨_, rfl, _, _, _, [], _, [], hW', (trodAll_cons_mk (shut_bool Tryd.underlying4 _) trodAll_mk0), (trodAll_cons_mk (Below.trod laidOut (by kernel_rfl) (of_decide_eq_true (by kernel_rfl)) h0 (gb_below hgb) (fun x hx => hW'.lt x (by simp [hx]))) (trodAll_cons_mk (Below.trod laidOut (by kernel_rfl) (of_decide_eq_true (by kernel_rfl)) h1 (gb_below hgb) (fun x hx => hW'.lt x (by simp [hx]))) (trodAll_cons_mk (shut_ver wc) trodAll_mk0))), rfl, (gb_below hgb).frame _, fun h => by cases h⟩

/-- a datum of numbers, as cells -/
def litV {H : Type} : DataW H → Value
  | .lit (.int k n) => .int k n
  | _ => .bool false
def rowV {H : Type} : DataW H → Array Value
  | .agg ps => (ps.flatMap fun d => match d with | .agg qs => qs.map litV | d => [litV d]).toArray
  | _ => #[]
/-- a world for the witness: the settled one, the tables holding what their initialisers lay. -/
def laidWorld (P : Program) (os : Os) : World :=
  { World.holding P os ⟨#[], #[], []⟩ with heap := (((World.holding P os ⟨#[], #[], []⟩).heap.setIfInBounds 1 (.cells (rowV Rows.laid_unicode_utf8_first) 132 (0, 0))).setIfInBounds 2 (.cells (rowV (Rows.laid_unicode_utf8_acceptRanges : DataW Unit)) 135 (0, 0))) }
def zeroA : Value := .agg #[.int .i64 0, .int .i64 0, .int .i64 0, .string ⟨#[]⟩, .string ⟨#[]⟩]
set_option maxRecDepth 100000 in
theorem laid_met (os : Os) : laidMet Tryd.prog Rows.spanHasUptoRow.laid ((laidWorld Tryd.prog os).forCall (fun _ _ => 0) ⟨#[], #[.slice none 0 0, .slice none 0 0, zeroA], []⟩).memory :=
  laidMet_of_run' 8 (by kernel_rfl) (by kernel_rfl)
theorem spanHasReads (os : Os) {H : Type} (enc : TypeId × Value → H) : ∃ places, DataW.whole enc Tryd.prog ((laidWorld Tryd.prog os).forCall (fun _ _ => 0) ⟨#[], #[.slice none 0 0, .slice none 0 0, zeroA], []⟩).memory Tryd.f3.params.toList Rows.spanHasSpec.vars false #[Value.slice none 0 0, Value.slice none 0 0, zeroA].toList 8 = some ([.nil, .nil, datV 0 0 0 ⟨#[]⟩ ⟨#[]⟩], [], places) :=
  ⟨[], by kernel_rfl⟩

set_option maxRecDepth 100000 in
theorem spanHasLifted (os : Os) (started : os.Started) (H : Type) (enc : TypeId × Value → H) (F : Stop.Interp) :
    ReturnsInHanded {} Tryd.checked os 3 .any ((Rows.OpenSpec.upto Rows.spanHasSpec).preRow enc Tryd.prog Tryd.f3 Rows.spanHasUptoRow.domain false Rows.spanHasUptoRow.laid) (((Rows.OpenSpec.upto Rows.spanHasSpec).at F).post enc Tryd.prog Tryd.f3 false true false false) := by
  obtain ⟨places, hx⟩ := spanHasReads os enc
  refine returnsInHanded_of_row (C := Tryd.checked) (s := Rows.OpenSpec.upto Rows.spanHasSpec) own started (by kernel_rfl) Tryd.func3
    (witness_row_at (enc := enc) (C := Tryd.checked) false (laidWorld Tryd.prog os) #[.slice none 0 0, .slice none 0 0, zeroA] rfl (by kernel_rfl) (by kernel_rfl) (by kernel_rfl)
      (OpenSpec.preRow_of_cond 8 hx (by kernel_rfl) (fun k hk => by cases hk; kernel_rfl) (by kernel_rfl) (laid_met os))) ?_
  intro W base args ds gs before hval hW _ hcond _ hL _ _
  exact spanHasContract H enc W base args ds gs before hval hW hL (hcond _ rfl)

theorem spanHasAll : Rows.SpanHasUptoSaid :=
  OpenClaim.holds_of_cond 3 Tryd.f3 rfl rfl rfl rfl rfl rfl rfl ⟨rfl, rfl, rfl, rfl, rfl⟩ rfl rfl rfl rfl rfl (by kernel_rfl) Tryd.func3 (by kernel_rfl)
    (of_decide_eq_true (by kernel_rfl)) (by unfold Func.isWrapper; first | (rw [if_pos (by decide +kernel)]; kernel_rfl) | (rw [if_neg (by decide +kernel)]; exact ⟨rfl, rfl⟩))
    (fun os started H enc _ F => by rw [OpenClaim.pre_eq_preRow]; exact spanHasLifted os started H enc F)

theorem spanHasPlain (f : FuncId) (fn : Func) (hf : Tryd.pinned.checked.prog.funcNamed "pantry/pantrylaw.SpanHas" = some f) (hfn : Tryd.pinned.checked.prog.funcs[f]? = some fn) :
    true = Tryd.pinned.checked.prog.looks [] ∧ ∀ (j : Nat) t, fn.params[j]? = some t → Tryd.pinned.checked.prog.wantsStandIn t = false := by
  obtain rfl : f = 3 := Option.some.inj ((show Tryd.prog.funcNamed "pantry/pantrylaw.SpanHas" = some 3 by kernel_rfl).symm.trans hf) |>.symm
  obtain rfl : fn = Tryd.f3 := (Option.some.inj (Tryd.func3.symm.trans hfn)).symm
  refine ⟨by kernel_rfl, fun j t ht => ?_⟩
  rw [Tryd.params3] at ht
  have hm := Array.mem_of_getElem? ht
  simp only [List.mem_toArray, List.mem_cons, List.not_mem_nil, or_false] at hm
  rcases hm with rfl | rfl | rfl
  · exact (show Tryd.prog.wantsStandIn 22 = false by kernel_rfl)
  · exact (show Tryd.prog.wantsStandIn 22 = false by kernel_rfl)
  · exact (show Tryd.prog.wantsStandIn 24 = false by kernel_rfl)

theorem spanHasUpto_card : Rows.SpanHasUptoCardSaid :=
  Claim7.holds_tied_plain_at .later [] _ _ _ _ spanHasAll (fun _ h => by cases h) (by kernel_rfl) (fun _ h => by cases h) spanHasUpto_row_tie rfl ⟨rfl, rfl⟩ (by kernel_rfl) rfl spanHasPlain (by kernel_rfl)
end Go.Proofs.YtjbmgnnkbpgngaaDoor
