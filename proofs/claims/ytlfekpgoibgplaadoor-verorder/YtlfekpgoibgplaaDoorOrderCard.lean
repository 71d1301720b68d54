/-
  VerOrder: the row and its card.
-/
import Derived.Test.YtlfekpgoibgplaaDoorLo
import Derived.Test.YtlfekpgoibgplaaDoorKv
import Derived.Test.YtlfekpgoibgplaaDoorCards
import Derived.Test.YtlfekpgoibgplaaDoorTie
import Derived.Deep.DeepHandedRow
import Derived.Lib.LaidTab
namespace Go.Proofs.YtlfekpgoibgplaaDoor
open Go.ChangeShapes Go.WideShapes Go.ChangeAt Go.RowKit
open Go.ChangeMaps (open_string shut_string)
set_option linter.unusedVariables false

theorem own : ownKnob Tryd.prog.godebug = none := by kernel_rfl

set_option maxRecDepth 100000 in
theorem orderContract (H : Type) (enc : TypeId × Value → H) (W : World) (base : Nat) (args : Array Value) (ds gs : List (DataW H)) (before : List MemPlace)
    (hval : ∀ (j : Nat) t v, Tryd.f6.params[j]? = some t → args[j]? = some v → Value.okWide Tryd.prog W .any base t v)
    (hW : DataW.Whole enc Tryd.prog Tryd.f6.params.toList Rows.verOrderSpec.vars false W args.toList ds gs before)
    (hsz0 : (DataW.weightsEach Tryd.prog (Tryd.f6.params.toList ++ Rows.verOrderSpec.plain.varTypes Tryd.prog) (ds ++ gs)).all (· ≤ reachBytes) = true) :
    Calls Tryd.prog 6 args W fun e W' => ∃ v, e = .returned v ∧ Rows.verOrderSpec.post enc Tryd.prog Tryd.f6 false true false false W args v W' := by
  have hsz := hsz0
  have hW' := hW
  obtain ⟨p, q, hA0, hV, rfl, hfz, hnd⟩ := hW
  have hA : DataW.TrodAll enc Tryd.prog W 0 (fun _ => true) true Tryd.f6.params.toList args.toList ds p := hA0
  rw [Tryd.params6] at hA hval hsz
  obtain ⟨v0, vs0, d0, ds0, p0, q0, hargs, rfl, rfl, h0, r0⟩ := trodAll_cons hA
  obtain ⟨v1, vs1, d1, ds1, p1, q1, hargs1, rfl, rfl, h1, r1⟩ := trodAll_cons r0
  obtain ⟨v2, vs2, d2, ds2, p2, q2, hargs2, rfl, rfl, h2, r2⟩ := trodAll_cons r1
  obtain ⟨v3, vs3, d3, ds3, p3, q3, hargs3, rfl, rfl, h3, r3⟩ := trodAll_cons r2
  obtain ⟨rfl, rfl, rfl⟩ := trodAll_nil r3
  obtain rfl : args = #[v0, v1, v2, v3] := by cases args; simp_all
  obtain ⟨rfl, rfl⟩ := trodVars_none hV
  obtain ⟨a1, a2, a3, a4, a5, rfl, rfl, rfl, wa⟩ := open_ver (hval 0 23 v0 rfl rfl) h0
  obtain ⟨b1, b2, b3, b4, b5, rfl, rfl, rfl, wb⟩ := open_ver (hval 1 23 v1 rfl rfl) h1
  obtain ⟨c1, c2, c3, c4, c5, rfl, rfl, rfl, wc⟩ := open_ver (hval 2 23 v2 rfl rfl) h2
  obtain ⟨d, rfl, rfl, rfl, wd⟩ := open_string Tryd.underlying9 (hval 3 9 v3 rfl rfl) h3
  have sa := reach_small (sized_ver hsz (j := 0) rfl rfl).1
  have sb := reach_small (sized_ver hsz (j := 1) rfl rfl).1
  have sc := reach_small (sized_ver hsz (j := 2) rfl rfl).1
  clear hA0 hsz hsz0
  simp only [List.append_nil] at hW'
  refine (orderLaw a1 a2 a3 b1 b2 b3 c1 c2 c3 a4 a5 b4 b5 c4 c5 d W sa sb sc).mono fun e W' ⟨he, hgb⟩ => ?_
  subst he
  exact ⟨_, rfl, _, _, _, [], [], [], hW', (trodAll_cons_mk (shut_bool Tryd.underlying4 _) trodAll_mk0),
    (trodAll_cons_mk (shut_ver wa) (trodAll_cons_mk (shut_ver wb) (trodAll_cons_mk (shut_ver wc) (trodAll_cons_mk (shut_string Tryd.underlying9 wd) trodAll_mk0)))), rfl, (gb_below hgb).frame _, fun h => by cases h⟩

/-- a datum of numbers, as cells -/
def litV {H : Type} : DataW H → Value
  | .lit (.int k n) => .int k n
  | _ => .bool false
def rowV {H : Type} : DataW H → Array Value
  | .agg ps => (ps.flatMap fun d => match d with | .agg qs => qs.map litV | d => [litV d]).toArray
  | _ => #[]
/-- a world for the witness: the settled one, the tables holding what their initialisers lay. -/
def laidWorld (P : Program) (os : Os) : World :=
  { World.holding P os ⟨#[], #[], []⟩ with heap := ((World.holding P os ⟨#[], #[], []⟩).heap.setIfInBounds 4 (.cells (rowV Rows.laid_unicode_utf8_first) 128 (0, 0))).setIfInBounds 5 (.cells (rowV (H := Unit) Rows.laid_unicode_utf8_acceptRanges) 131 (0, 0)) }
def zeroA : Value := .agg #[.int .i64 0, .int .i64 0, .int .i64 0, .string ⟨#[]⟩, .string ⟨#[]⟩]
set_option maxRecDepth 100000 in
theorem laid_met (os : Os) : laidMet Tryd.prog Rows.verOrderRow.laid ((laidWorld Tryd.prog os).forCall (fun _ _ => 0) ⟨#[], #[zeroA, zeroA, zeroA, .string ⟨#[]⟩], []⟩).memory :=
  laidMet_of_run' 8 (by kernel_rfl) (by kernel_rfl)
theorem orderReads (os : Os) {H : Type} (enc : TypeId × Value → H) : ∃ places, DataW.whole enc Tryd.prog ((laidWorld Tryd.prog os).forCall (fun _ _ => 0) ⟨#[], #[zeroA, zeroA, zeroA, .string ⟨#[]⟩], []⟩).memory Tryd.f6.params.toList Rows.verOrderSpec.vars false #[zeroA, zeroA, zeroA, Value.string ⟨#[]⟩].toList 8 = some ([datV 0 0 0 ⟨#[]⟩ ⟨#[]⟩, datV 0 0 0 ⟨#[]⟩ ⟨#[]⟩, datV 0 0 0 ⟨#[]⟩ ⟨#[]⟩, .lit (.string [])], [], places) :=
  ⟨[], by kernel_rfl⟩

set_option maxRecDepth 100000 in
theorem orderLifted (os : Os) (started : os.Started) (H : Type) (enc : TypeId × Value → H) (F : Stop.Interp) :
    ReturnsInHanded {} Tryd.checked os 6 .any ((OpenSpec.ofChange Rows.verOrderSpec).preRow enc Tryd.prog Tryd.f6 Rows.verOrderRow.domain false Rows.verOrderRow.laid) (((OpenSpec.ofChange Rows.verOrderSpec).at F).post enc Tryd.prog Tryd.f6 false true false false) := by
  obtain ⟨places, hx⟩ := orderReads os enc
  refine returnsInHanded_of_row (C := Tryd.checked) (s := OpenSpec.ofChange Rows.verOrderSpec) own started (by kernel_rfl) Tryd.func6
    (witness_row_at (enc := enc) (C := Tryd.checked) false (laidWorld Tryd.prog os) #[zeroA, zeroA, zeroA, .string ⟨#[]⟩] rfl (by kernel_rfl) (by kernel_rfl) (by kernel_rfl)
      (OpenSpec.preRow_of_cond 8 hx (by kernel_rfl) (fun k hk => by cases hk) (by kernel_rfl) (laid_met os))) ?_
  intro W base args ds gs before hval hW _ _ h2 hL _ _
  exact orderContract H enc W base args ds gs before hval hW h2

theorem orderAll : Rows.VerOrderSaid :=
  OpenClaim.holds_of_cond 6 Tryd.f6 rfl rfl rfl rfl rfl rfl rfl ⟨rfl, rfl, rfl, rfl, rfl⟩ rfl rfl rfl rfl rfl (by kernel_rfl) Tryd.func6 (by kernel_rfl)
    (of_decide_eq_true (by kernel_rfl)) (by unfold Func.isWrapper; first | (rw [if_pos (by decide +kernel)]; kernel_rfl) | (rw [if_neg (by decide +kernel)]; exact ⟨rfl, rfl⟩))
    (fun os started H enc _ F => by rw [OpenClaim.pre_eq_preRow]; exact orderLifted os started H enc F)

theorem orderPlain (f : FuncId) (fn : Func) (hf : Tryd.pinned.checked.prog.funcNamed "pantry/pantrylaw.VerOrder" = some f) (hfn : Tryd.pinned.checked.prog.funcs[f]? = some fn) :
    true = Tryd.pinned.checked.prog.looks [] ∧ ∀ (j : Nat) t, fn.params[j]? = some t → Tryd.pinned.checked.prog.wantsStandIn t = false := by
  obtain rfl : f = 6 := Option.some.inj ((show Tryd.prog.funcNamed "pantry/pantrylaw.VerOrder" = some 6 by kernel_rfl).symm.trans hf) |>.symm
  obtain rfl : fn = Tryd.f6 := (Option.some.inj (Tryd.func6.symm.trans hfn)).symm
  refine ⟨by kernel_rfl, fun j t ht => ?_⟩
  rw [Tryd.params6] at ht
  have hm := Array.mem_of_getElem? ht
  simp only [List.mem_toArray, List.mem_cons, List.not_mem_nil, or_false] at hm
  rcases hm with rfl | rfl | rfl | rfl
  · exact (show Tryd.prog.wantsStandIn 23 = false by kernel_rfl)
  · exact (show Tryd.prog.wantsStandIn 23 = false by kernel_rfl)
  · exact (show Tryd.prog.wantsStandIn 23 = false by kernel_rfl)
  · exact (show Tryd.prog.wantsStandIn 9 = false by kernel_rfl)

theorem verOrder_card : Rows.VerOrderCardSaid :=
  Claim7.holds_tied_plain_at .later [] _ _ _ _ orderAll (fun _ h => by cases h) (by kernel_rfl) (fun _ h => by cases h) verOrder_row_tie rfl ⟨rfl, rfl⟩ (by kernel_rfl) rfl orderPlain (by kernel_rfl)
end Go.Proofs.YtlfekpgoibgplaaDoor
