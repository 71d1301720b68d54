/-
  A version among the arguments: opened, shut, weighed.
-/
import Derived.Test.YtffogcjlpojpdaaDoorRows
import Derived.Test.YtffogcjlpojpdaaDoorLk
import Derived.ProofKit
import Derived.OpenShut
import Derived.ShutString
import Derived.SizedLaws
import Derived.Lib.SmallJoins
namespace Go.Proofs.YtffogcjlpojpdaaDoor
open Go.ChangeShapes Go.WideShapes Go.ChangeAt Go.RowKit Go.Joins
open Go.ChangeMaps (open_string shut_string)
set_option linter.unusedVariables false

theorem cellsVer : Tryd.prog.cellsOf 23 = 5 := by kernel_rfl
theorem array5 {α : Type} {cs : Array α} (h : cs.size = 5) : ∃ c0 c1 c2 c3 c4, cs = #[c0, c1, c2, c3, c4] := by
  obtain ⟨l⟩ := cs
  match l, h with
  | [c0, c1, c2, c3, c4], _ => exact ⟨c0, c1, c2, c3, c4, rfl⟩
/-- how a version reads -/
def datV {H : Type} (a1 a2 a3 : Int) (a4 a5 : ByteArray) : DataW H := .agg [.lit (.int .i64 a1), .lit (.int .i64 a2), .lit (.int .i64 a3), .lit (.string a4.data.toList), .lit (.string a5.data.toList)]
def wfV (a1 a2 a3 : Int) (a4 a5 : ByteArray) : Prop := (Lit.int .i64 a1).wf = true ∧ (Lit.int .i64 a2).wf = true ∧ (Lit.int .i64 a3).wf = true ∧ a4.size ≤ maxLen ∧ a5.size ≤ maxLen

set_option maxRecDepth 100000 in
set_option maxHeartbeats 800000 in
theorem open_ver {H : Type} {enc : TypeId × Value → H} {w : World} {base : Nat} {spare : Nat → Bool} {held : Bool} {r : Reach} {b0 : Nat} {v : Value} {d : DataW H} {p : List MemPlace}
    (hv : Value.okWide Tryd.prog w r b0 23 v) (h : DataW.Trod enc Tryd.prog w base spare held 23 v d p) :
    ∃ (a1 a2 a3 : Int) (a4 a5 : ByteArray), v = .agg #[.int .i64 a1, .int .i64 a2, .int .i64 a3, .string a4, .string a5] ∧ d = datV a1 a2 a3 a4 a5 ∧ p = [] ∧ wfV a1 a2 a3 a4 a5 := by
  have hu := Tryd.underlying23
  obtain ⟨cs, rfl, hsz⟩ := okWide_struct hu hv
  have hsz' : cs.size = 5 := by rw [hsz]; exact cellsVer
  obtain ⟨c0, c1, c2, c3, c4, rfl⟩ := array5 hsz'
  obtain ⟨fuel, hf⟩ := h
  obtain ⟨xs, n, _, hx, hl, hlen, hfs⟩ := DataW.trod_struct hu hf
  simp only [Prod.mk.injEq] at hx
  obtain ⟨rfl, rfl⟩ := hx
  match xs, hlen with
  | [y0, y1, y2, y3, y4], _ =>
    have k3 : Tryd.prog.cellsOf 3 = 1 := by kernel_rfl
    have k9 : Tryd.prog.cellsOf 9 = 1 := by kernel_rfl
    have g0 := hfs 0 _ rfl
    have g1 := hfs 1 _ rfl
    have g2 := hfs 2 _ rfl
    have g3 := hfs 3 _ rfl
    have g4 := hfs 4 _ rfl
    simp [Value.cells, k3, k9] at g0 g1 g2 g3 g4
    obtain ⟨a1, e1, rfl, w1⟩ := DataW.trod_int Tryd.underlying3 g0
    obtain ⟨a2, e2, rfl, w2⟩ := DataW.trod_int Tryd.underlying3 g1
    obtain ⟨a3, e3, rfl, w3⟩ := DataW.trod_int Tryd.underlying3 g2
    obtain ⟨a4, e4, rfl, w4⟩ := DataW.trod_string Tryd.underlying9 g3
    obtain ⟨a5, e5, rfl, w5⟩ := DataW.trod_string Tryd.underlying9 g4
    simp at e1 e2 e3 e4 e5
    subst e1 e2 e3 e4 e5
    exact ⟨a1, a2, a3, a4, a5, rfl, rfl, rfl, w1, w2, w3, w4, w5⟩

set_option maxRecDepth 100000 in
set_option maxHeartbeats 800000 in
theorem shut_ver {H : Type} {enc : TypeId × Value → H} {w : World} {base : Nat} {spare : Nat → Bool} {held : Bool} {a1 a2 a3 : Int} {a4 a5 : ByteArray} (h : wfV a1 a2 a3 a4 a5) :
    DataW.Trod enc Tryd.prog w base spare held 23 (.agg #[.int .i64 a1, .int .i64 a2, .int .i64 a3, .string a4, .string a5]) (datV a1 a2 a3 a4 a5) [] := by
  have hu := Tryd.underlying23
  have k3 : Tryd.prog.cellsOf 3 = 1 := by kernel_rfl
  have k9 : Tryd.prog.cellsOf 9 = 1 := by kernel_rfl
  have u3 := Tryd.underlying3
  have u9 := Tryd.underlying9
  obtain ⟨h1, h2, h3, h4, h5⟩ := h
  refine ⟨2, ?_⟩
  have := trod_struct_mk (enc := enc) (w := w) (base := base) (spare := spare) (held := held) (n := 1) (cs := [.int .i64 a1, .int .i64 a2, .int .i64 a3, .string a4, .string a5])
    (xs := [(.lit (.int .i64 a1), []), (.lit (.int .i64 a2), []), (.lit (.int .i64 a3), []), (.lit (.string a4.data.toList), []), (.lit (.string a5.data.toList), [])]) hu (by rw [cellsVer]; rfl) (by simp [k3, k9, DataW.trod, u3, u9, h1, h2, h3, h4, h5])
  simpa [Value.cells, datV] using this

theorem sized_ver {H : Type} {ts : List TypeId} {ds : List (DataW H)} (h : (DataW.weightsEach Tryd.prog ts ds).all (· ≤ reachBytes) = true) {j : Nat} {a1 a2 a3 : Int} {a4 a5 : ByteArray} (ht : ts[j]? = some 23) (hd : ds[j]? = some (datV a1 a2 a3 a4 a5)) :
    a4.size ≤ reachBytes ∧ a5.size ≤ reachBytes := by
  have hu := Tryd.underlying23
  constructor
  · have := List.all_eq_true.1 h _ (DataW.weights_mem_each ht hd a4.data.toList.length (by simp [datV, DataW.weights, DataW.weightsEach, hu]))
    simpa using this
  · have := List.all_eq_true.1 h _ (DataW.weights_mem_each ht hd a5.data.toList.length (by simp [datV, DataW.weights, DataW.weightsEach, hu]))
    simpa using this
theorem reach_small {n : Nat} (h : n ≤ reachBytes) : n < 2 ^ 62 := by have := reachBytes_lt; omega
end Go.Proofs.YtffogcjlpojpdaaDoor
