/-
  VerTexts: the row and its card.
-/
import Derived.Test.YtlfekpgoibgplaaDoorLt
import Derived.Test.YtlfekpgoibgplaaDoorKv
import Derived.Test.YtlfekpgoibgplaaDoorCards
import Derived.Test.YtlfekpgoibgplaaDoorTie
import Derived.Deep.DeepHandedRow
import Derived.Lib.LaidTab
namespace Go.Proofs.YtlfekpgoibgplaaDoor
open Go.ChangeShapes Go.WideShapes Go.ChangeAt Go.RowKit
open Go.ChangeMaps (open_string shut_string)
set_option linter.unusedVariables false

theorem own : ownKnob Tryd.prog.godebug = none := by kernel_rfl
theorem gTab : Tryd.prog.globalNamed "internal/strconv.uint64pow10" = some 0 := by kernel_rfl
theorem gTabType : (Tryd.prog.globals[0]?).map (·.type) = some 111 := by kernel_rfl
theorem cellsTab : Tryd.prog.cellsOf 111 = 20 := by kernel_rfl
theorem cellsU64 : Tryd.prog.cellsOf 97 = 1 := by kernel_rfl
theorem table {W : World} (h : laidMetH Tryd.prog Rows.verTextsUptoRow.laid W) : Tab W := by
  have h2 : laidMetH Tryd.prog [("internal/strconv.uint64pow10", Rows.laid_internal_strconv_uint64pow10)] W := h.filter (fun x => x.1 == "internal/strconv.uint64pow10")
  exact Lib.tabIs_of_head (rest := []) (zs := Lib.pow10Tab) gTab gTabType Tryd.underlying111 Tryd.underlying97 cellsU64 cellsTab h2

set_option maxRecDepth 100000 in
theorem textsContract (H : Type) (enc : TypeId × Value → H) (W : World) (base : Nat) (args : Array Value) (ds gs : List (DataW H)) (before : List MemPlace)
    (hval : ∀ (j : Nat) t v, Tryd.f3.params[j]? = some t → args[j]? = some v → Value.okWide Tryd.prog W .any base t v)
    (hW : DataW.Whole enc Tryd.prog Tryd.f3.params.toList Rows.verTextsSpec.vars false W args.toList ds gs before) (hL : laidMetH Tryd.prog Rows.verTextsUptoRow.laid W)
    (hcond : Rows.uptoSmall H (ds ++ gs) = true) :
    Calls Tryd.prog 3 args W fun e W' => ∃ v, e = .returned v ∧ Rows.verTextsSpec.post enc Tryd.prog Tryd.f3 false true false false W args v W' := by
  have hW' := hW
  obtain ⟨p, q, hA0, hV, rfl, hfz, hnd⟩ := hW
  have hA : DataW.TrodAll enc Tryd.prog W 0 (fun _ => true) true Tryd.f3.params.toList args.toList ds p := hA0
  rw [Tryd.params3] at hA hval
  obtain ⟨v0, vs0, d0, ds0, p0, q0, hargs0, rfl, rfl, h0, r0⟩ := trodAll_cons hA
  obtain ⟨rfl, rfl, rfl⟩ := trodAll_nil r0
  obtain rfl : args = #[v0] := by cases args; simp_all
  obtain ⟨rfl, rfl⟩ := trodVars_none hV
  obtain ⟨a1, a2, a3, a4, a5, rfl, rfl, rfl, wa⟩ := open_ver (hval 0 23 v0 rfl rfl) h0
  have hb := of_decide_eq_true hcond
  simp only [List.append_nil, datV, Rows.uptoBulkAll, Rows.uptoBulk, Array.length_toList] at hb
  have sa : a4.size ≤ 1048576 ∧ a5.size ≤ 1048576 := by have e4 : a4.data.size = a4.size := rfl; have e5 : a5.data.size = a5.size := rfl; omega
  clear hb hA0
  simp only [List.append_nil] at hW'
  refine (textsLaw a1 a2 a3 a4 a5 W (table hL) (bounds_i64 wa.1) (bounds_i64 wa.2.1) (bounds_i64 wa.2.2.1) sa.1 sa.2).mono fun e W' ⟨he, hgb⟩ => ?_
  subst he
  exact ⟨_, rfl, _, _, _, [], [], [], hW', (trodAll_cons_mk (shut_bool Tryd.underlying4 _) trodAll_mk0), (trodAll_cons_mk (shut_ver wa) trodAll_mk0), rfl, (gb_below hgb).frame _, fun h => by cases h⟩

/-- a datum of numbers, as cells -/
def litV {H : Type} : DataW H → Value
  | .lit (.int k n) => .int k n
  | _ => .bool false
def rowV {H : Type} : DataW H → Array Value
  | .agg ps => (ps.flatMap fun d => match d with | .agg qs => qs.map litV | d => [litV d]).toArray
  | _ => #[]
/-- a world for the witness: the settled one, the tables holding what their initialisers lay. -/
def laidWorld (P : Program) (os : Os) : World :=
  { World.holding P os ⟨#[], #[], []⟩ with heap := ((((World.holding P os ⟨#[], #[], []⟩).heap.setIfInBounds 2 (.cells (rowV (Rows.laid_math_bits_deBruijn32tab : DataW Unit)) 126 (0, 0))).setIfInBounds 3 (.cells (rowV (Rows.laid_math_bits_deBruijn64tab : DataW Unit)) 127 (0, 0))).setIfInBounds 0 (.cells (rowV (Rows.laid_internal_strconv_uint64pow10 : DataW Unit)) 111 (0, 0))) }
def zeroA : Value := .agg #[.int .i64 0, .int .i64 0, .int .i64 0, .string ⟨#[]⟩, .string ⟨#[]⟩]
set_option maxRecDepth 100000 in
theorem laid_met (os : Os) : laidMet Tryd.prog Rows.verTextsUptoRow.laid ((laidWorld Tryd.prog os).forCall (fun _ _ => 0) ⟨#[], #[zeroA], []⟩).memory :=
  laidMet_of_run' 8 (by kernel_rfl) (by kernel_rfl)
theorem textsReads (os : Os) {H : Type} (enc : TypeId × Value → H) : ∃ places, DataW.whole enc Tryd.prog ((laidWorld Tryd.prog os).forCall (fun _ _ => 0) ⟨#[], #[zeroA], []⟩).memory Tryd.f3.params.toList Rows.verTextsSpec.vars false #[zeroA].toList 8 = some ([datV 0 0 0 ⟨#[]⟩ ⟨#[]⟩], [], places) :=
  ⟨[], by kernel_rfl⟩

set_option maxRecDepth 100000 in
theorem textsLifted (os : Os) (started : os.Started) (H : Type) (enc : TypeId × Value → H) (F : Stop.Interp) :
    ReturnsInHanded {} Tryd.checked os 3 .any ((Rows.OpenSpec.upto Rows.verTextsSpec).preRow enc Tryd.prog Tryd.f3 Rows.verTextsUptoRow.domain false Rows.verTextsUptoRow.laid) (((Rows.OpenSpec.upto Rows.verTextsSpec).at F).post enc Tryd.prog Tryd.f3 false true false false) := by
  obtain ⟨places, hx⟩ := textsReads os enc
  refine returnsInHanded_of_row (C := Tryd.checked) (s := Rows.OpenSpec.upto Rows.verTextsSpec) own started (by kernel_rfl) Tryd.func3
    (witness_row_at (enc := enc) (C := Tryd.checked) false (laidWorld Tryd.prog os) #[zeroA] rfl (by kernel_rfl) (by kernel_rfl) (by kernel_rfl)
      (OpenSpec.preRow_of_cond 8 hx (by kernel_rfl) (fun k hk => by cases hk; kernel_rfl) (by kernel_rfl) (laid_met os))) ?_
  intro W base args ds gs before hval hW _ hcond _ hL _ _
  exact textsContract H enc W base args ds gs before hval hW hL (hcond _ rfl)

theorem textsAll : Rows.VerTextsUptoSaid :=
  OpenClaim.holds_of_cond 3 Tryd.f3 rfl rfl rfl rfl rfl rfl rfl ⟨rfl, rfl, rfl, rfl, rfl⟩ rfl rfl rfl rfl rfl (by kernel_rfl) Tryd.func3 (by kernel_rfl)
    (of_decide_eq_true (by kernel_rfl)) (by unfold Func.isWrapper; first | (rw [if_pos (by decide +kernel)]; kernel_rfl) | (rw [if_neg (by decide +kernel)]; exact ⟨rfl, rfl⟩))
    (fun os started H enc _ F => by rw [OpenClaim.pre_eq_preRow]; exact textsLifted os started H enc F)

theorem textsPlain (f : FuncId) (fn : Func) (hf : Tryd.pinned.checked.prog.funcNamed "pantry/pantrylaw.VerTexts" = some f) (hfn : Tryd.pinned.checked.prog.funcs[f]? = some fn) :
    true = Tryd.pinned.checked.prog.looks [] ∧ ∀ (j : Nat) t, fn.params[j]? = some t → Tryd.pinned.checked.prog.wantsStandIn t = false := by
  obtain rfl : f = 3 := Option.some.inj ((show Tryd.prog.funcNamed "pantry/pantrylaw.VerTexts" = some 3 by kernel_rfl).symm.trans hf) |>.symm
  obtain rfl : fn = Tryd.f3 := (Option.some.inj (Tryd.func3.symm.trans hfn)).symm
  refine ⟨by kernel_rfl, fun j t ht => ?_⟩
  rw [Tryd.params3] at ht
  have hm := Array.mem_of_getElem? ht
  simp only [List.mem_toArray, List.mem_cons, List.not_mem_nil, or_false] at hm
  subst hm
  exact (show Tryd.prog.wantsStandIn 23 = false by kernel_rfl)

theorem verTextsUpto_card : Rows.VerTextsUptoCardSaid :=
  Claim7.holds_tied_plain_at .later [] _ _ _ _ textsAll (fun _ h => by cases h) (by kernel_rfl) (fun _ h => by cases h) verTextsUpto_row_tie rfl ⟨rfl, rfl⟩ (by kernel_rfl) rfl textsPlain (by kernel_rfl)
end Go.Proofs.YtlfekpgoibgplaaDoor
