/-
  SpanHas: the row and its card.
-/
import Derived.Test.YtffogcjlpojpdaaDoorPu
import Derived.Test.YtffogcjlpojpdaaDoorKs
import Derived.Test.YtffogcjlpojpdaaDoorCards
import Derived.Test.YtffogcjlpojpdaaDoorTie
import Derived.Deep.DeepHandedRow
import Derived.Lib.LaidTab
namespace Go.Proofs.YtffogcjlpojpdaaDoor
open Go.ChangeShapes Go.WideShapes Go.ChangeAt Go.RowKit
open Go.ChangeMaps (open_string shut_string)
set_option linter.unusedVariables false

theorem own : ownKnob Tryd.prog.godebug = none := by kernel_rfl
theorem laidOut : laidOutB Tryd.prog = true := by kernel_rfl

set_option maxRecDepth 100000 in
theorem spanHasContract (H : Type) (enc : TypeId × Value → H) (W : World) (base : Nat) (args : Array Value) (ds gs : List (DataW H)) (before : List MemPlace)
    (hval : ∀ (j : Nat) t v, Tryd.f5.params[j]? = some t → args[j]? = some v → Value.okWide Tryd.prog W .any base t v)
    (hW : DataW.Whole enc Tryd.prog Tryd.f5.params.toList Rows.spanHasSpec.vars false W args.toList ds gs before) (hL : laidMetH Tryd.prog Rows.spanHasUptoRow.laid W)
    (hcond : Rows.uptoSmall H (ds ++ gs) = true) :
    Calls Tryd.prog 5 args W fun e W' => ∃ v, e = .returned v ∧ Rows.spanHasSpec.post enc Tryd.prog Tryd.f5 false true false false W args v W' := by
  have hW' := hW
  obtain ⟨p, q, hA0, hV, rfl, hfz, hnd⟩ := hW
  have hA : DataW.TrodAll enc Tryd.prog W 0 (fun _ => true) true Tryd.f5.params.toList args.toList ds p := hA0
  rw [Tryd.params5] at hA hval
  obtain ⟨v0, vs0, d0, ds0, p0, q0, hargs0, rfl, rfl, h0, r0⟩ := trodAll_cons hA
  obtain ⟨v1, vs1, d1, ds1, p1, q1, hargs1, rfl, rfl, h1, r1⟩ := trodAll_cons r0
  obtain ⟨v2, vs2, d2, ds2, p2, q2, hargs2, rfl, rfl, h2, r2⟩ := trodAll_cons r1
  obtain ⟨rfl, rfl, rfl⟩ := trodAll_nil r2
  obtain rfl : args = #[v0, v1, v2] := by cases args; simp_all
  obtain ⟨rfl, rfl⟩ := trodVars_none hV
  obtain ⟨L0, hS0, hN0, hE0⟩ := open_spans (hval 0 28 v0 rfl rfl) h0
  obtain ⟨L1, hS1, hN1, hE1⟩ := open_spans (hval 1 28 v1 rfl rfl) h1
  obtain ⟨c1, c2, c3, c4, c5, rfl, rfl, rfl, wc⟩ := open_ver (hval 2 23 v2 rfl rfl) h2
  have hb := of_decide_eq_true hcond
  simp only [List.append_nil, datV, Rows.uptoBulkAll, Rows.uptoBulk, Array.length_toList] at hb
  have sa : Rows.uptoBulk d0 ≤ 1048576 := by omega
  have sb : Rows.uptoBulk d1 ≤ 1048576 := by omega
  have sc : c4.size ≤ 1048576 ∧ c5.size ≤ 1048576 := by have e4 : c4.data.size = c4.size := rfl; have e5 : c5.data.size = c5.size := rfl; omega
  clear hb hA0
  simp only [List.append_nil] at hW'
  refine (hasLaw v0 v1 L0 L1 c1 c2 c3 c4 c5 W hS0 hS1 (by omega) (fun s hs => by have q := bulk_span (H := H) s; have q2 := hE0 s hs; exact ⟨by omega, by omega, by omega, by omega⟩) (by omega) (fun s hs => by have q := bulk_span (H := H) s; have q2 := hE1 s hs; exact ⟨by omega, by omega, by omega, by omega⟩) sc.1).mono fun e W' ⟨he, hgb⟩ => ?_
  subst he
  exact ⟨_, rfl, _, _, _, [], _, [], hW', (trodAll_cons_mk (shut_bool Tryd.underlying4 _) trodAll_mk0), (trodAll_cons_mk (Below.trod laidOut (by kernel_rfl) (of_decide_eq_true (by kernel_rfl)) h0 (gb_below hgb) (fun x hx => hW'.lt x (by simp [hx]))) (trodAll_cons_mk (Below.trod laidOut (by kernel_rfl) (of_decide_eq_true (by kernel_rfl)) h1 (gb_below hgb) (fun x hx => hW'.lt x (by simp [hx]))) (trodAll_cons_mk (shut_ver wc) trodAll_mk0))), rfl, (gb_below hgb).frame _, fun h => by cases h⟩

/-- a datum of numbers, as cells -/
def litV {H : Type} : DataW H → Value
  | .lit (.int k n) => .int k n
  | _ => .bool false
def rowV {H : Type} : DataW H → Array Value
  | .agg ps => (ps.flatMap fun d => match d with | .agg qs => qs.map litV | d => [litV d]).toArray
  | _ => #[]
/-- a world for the witness: the settled one, the tables holding what their initialisers lay. -/
def laidWorld (P : Program) (os : Os) : World :=
  { World.holding P os ⟨#[], #[], []⟩ with heap := (((World.holding P os ⟨#[], #[], []⟩).heap.setIfInBounds 1 (.cells (rowV Rows.laid_unicode_utf8_first) 132 (0, 0))).setIfInBounds 2 (.cells (rowV (Rows.laid_unicode_utf8_acceptRanges : DataW Unit)) 135 (0, 0))) }
def zeroA : Value := .agg #[.int .i64 0, .int .i64 0, .int .i64 0, .string ⟨#[]⟩, .string ⟨#[]⟩]
set_option maxRecDepth 100000 in
theorem laid_met (os : Os) : laidMet Tryd.prog Rows.spanHasUptoRow.laid ((laidWorld Tryd.prog os).forCall (fun _ _ => 0) ⟨#[], #[.slice none 0 0, .slice none 0 0, zeroA], []⟩).memory :=
  laidMet_of_run' 8 (by kernel_rfl) (by kernel_rfl)
theorem spanHasReads (os : Os) {H : Type} (enc : TypeId × Value → H) : ∃ places, DataW.whole enc Tryd.prog ((laidWorld Tryd.prog os).forCall (fun _ _ => 0) ⟨#[], #[.slice none 0 0, .slice none 0 0, zeroA], []⟩).memory Tryd.f5.params.toList Rows.spanHasSpec.vars false #[Value.slice none 0 0, Value.slice none 0 0, zeroA].toList 8 = some ([.nil, .nil, datV 0 0 0 ⟨#[]⟩ ⟨#[]⟩], [], places) :=
  ⟨[], by kernel_rfl⟩

set_option maxRecDepth 100000 in
theorem spanHasLifted (os : Os) (started : os.Started) (H : Type) (enc : TypeId × Value → H) (F : Stop.Interp) :
    ReturnsInHanded {} Tryd.checked os 5 .any ((Rows.OpenSpec.upto Rows.spanHasSpec).preRow enc Tryd.prog Tryd.f5 Rows.spanHasUptoRow.domain false Rows.spanHasUptoRow.laid) (((Rows.OpenSpec.upto Rows.spanHasSpec).at F).post enc Tryd.prog Tryd.f5 false true false false) := by
  obtain ⟨places, hx⟩ := spanHasReads os enc
  refine returnsInHanded_of_row (C := Tryd.checked) (s := Rows.OpenSpec.upto Rows.spanHasSpec) own started (by kernel_rfl) Tryd.func5
    (witness_row_at (enc := enc) (C := Tryd.checked) false (laidWorld Tryd.prog os) #[.slice none 0 0, .slice none 0 0, zeroA] rfl (by kernel_rfl) (by kernel_rfl) (by kernel_rfl)
      (OpenSpec.preRow_of_cond 8 hx (by kernel_rfl) (fun k hk => by cases hk; kernel_rfl) (by kernel_rfl) (laid_met os))) ?_
  intro W base args ds gs before hval hW _ hcond _ hL _ _
  exact spanHasContract H enc W base args ds gs before hval hW hL (hcond _ rfl)

theorem spanHasAll : Rows.SpanHasUptoSaid :=
  OpenClaim.holds_of_cond 5 Tryd.f5 rfl rfl rfl rfl rfl rfl rfl ⟨rfl, rfl, rfl, rfl, rfl⟩ rfl rfl rfl rfl rfl (by kernel_rfl) Tryd.func5 (by kernel_rfl)
    (of_decide_eq_true (by kernel_rfl)) (by unfold Func.isWrapper; first | (rw [if_pos (by decide +kernel)]; kernel_rfl) | (rw [if_neg (by decide +kernel)]; exact ⟨rfl, rfl⟩))
    (fun os started H enc _ F => by rw [OpenClaim.pre_eq_preRow]; exact spanHasLifted os started H enc F)

theorem spanHasPlain (f : FuncId) (fn : Func) (hf : Tryd.pinned.checked.prog.funcNamed "pantry/pantrylaw.SpanHas" = some f) (hfn : Tryd.pinned.checked.prog.funcs[f]? = some fn) :
    true = Tryd.pinned.checked.prog.looks [] ∧ ∀ (j : Nat) t, fn.params[j]? = some t → Tryd.pinned.checked.prog.wantsStandIn t = false := by
  obtain rfl : f = 5 := Option.some.inj ((show Tryd.prog.funcNamed "pantry/pantrylaw.SpanHas" = some 5 by kernel_rfl).symm.trans hf) |>.symm
  obtain rfl : fn = Tryd.f5 := (Option.some.inj (Tryd.func5.symm.trans hfn)).symm
  refine ⟨by kernel_rfl, fun j t ht => ?_⟩
  rw [Tryd.params5] at ht
  have hm := Array.mem_of_getElem? ht
  simp only [List.mem_toArray, List.mem_cons, List.not_mem_nil, or_false] at hm
  rcases hm with rfl | rfl | rfl
  · exact (show Tryd.prog.wantsStandIn 28 = false by kernel_rfl)
  · exact (show Tryd.prog.wantsStandIn 28 = false by kernel_rfl)
  · exact (show Tryd.prog.wantsStandIn 23 = false by kernel_rfl)

theorem spanHasUpto_card : Rows.SpanHasUptoCardSaid :=
  Claim7.holds_tied_plain_at .later [] _ _ _ _ spanHasAll (fun _ h => by cases h) (by kernel_rfl) (fun _ h => by cases h) spanHasUpto_row_tie rfl ⟨rfl, rfl⟩ (by kernel_rfl) rfl spanHasPlain (by kernel_rfl)
end Go.Proofs.YtffogcjlpojpdaaDoor
