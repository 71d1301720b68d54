import Derived.SizedLaws
import Derived.Test.YtonfldbigenfhaaGreatDoorM40
import Derived.Test.YtonfldbigenfhaaGreatDoorM37
import Derived.Test.YtonfldbigenfhaaGreatDoorCards
import Derived.Test.YtonfldbigenfhaaGreatDoorTie
import Derived.Deep.DeepHandedRow
import Derived.Lib.LaidTab
namespace Go.Proofs.YtonfldbigenfhaaGreatDoor
open Go.ChangeShapes Go.WideShapes Go.ChangeAt Go.RowKit
open Go.ChangeMaps (open_string shut_string)
set_option linter.unusedVariables false
theorem own:ownKnob Tryz.prog.godebug=none:=by kernel_rfl
set_option maxRecDepth 100000 in
theorem rangeParsesContract (H:Type) (enc:TypeId × Value->H) (W:World) (base:Nat) (args:Array Value) (ds gs:List (DataW H)) (before:List MemPlace)
  (hval:∀(j:Nat) t v,Tryz.f3.params[j]?=some t->args[j]?=some v->Value.okWide Tryz.prog W .any base t v)
  (hW:DataW.Whole enc Tryz.prog Tryz.f3.params.toList Rows.rangeParsesSpec.vars false W args.toList ds gs before) (hL:laidMetH Tryz.prog Rows.rangeParsesRow.laid W)
  (hsz0:(DataW.weightsEach Tryz.prog (Tryz.f3.params.toList++Rows.rangeParsesSpec.plain.varTypes Tryz.prog) (ds++gs)).all (· <= reachBytes)=true) :
  Calls Tryz.prog 3 args W fun e W'=>∃v,e=.returned v/\Rows.rangeParsesSpec.post enc Tryz.prog Tryz.f3 false true false false W args v W':=by
 have hsz:=hsz0
 have hW':=hW
 obtain ⟨p,q,hA0,hV,rfl,hfz,hnd⟩:=hW
 have hA:DataW.TrodAll enc Tryz.prog W 0 (fun _=>true) true Tryz.f3.params.toList args.toList ds p:=hA0
 rw [Tryz.params3] at hA hval hsz
 obtain ⟨v0,vs0,d0,ds0,p0,q0,hargs0,rfl,rfl,h0,r0⟩:=trodAll_cons hA
 obtain ⟨rfl,rfl,rfl⟩:=trodAll_nil r0
 obtain rfl:args=#[v0]:=by cases args;simp_all
 obtain ⟨rfl,rfl⟩:=trodVars_none hV
 obtain ⟨a,rfl,rfl,rfl,wa⟩:=open_string Tryz.underlying9 (hval 0 9 v0 rfl rfl) h0
 have sa:a.size<=140737488351232:=by have h:=sized_string hsz (j:=0) (t:=9) rfl rfl;simpa [reachBytes] using h
 clear hA0 hsz hsz0
 simp only [List.append_nil] at hW'
 refine (rangeParsesLaw a W (by omega)).mono fun e W' ⟨he,hgb⟩=>?_
 subst he
 exact ⟨_,rfl,_,_,_,[],[],[],hW',(trodAll_cons_mk (shut_bool Tryz.underlying4 _) trodAll_mk0),(trodAll_cons_mk (shut_string Tryz.underlying9 wa) trodAll_mk0),rfl,(gb_below hgb).frame _,fun h=>by cases h⟩
def litV {H:Type}:DataW H->Value
 | .lit (.int k n)=>.int k n
 | _=>.bool false
def rowV {H:Type}:DataW H->Array Value
 | .agg ps=>(ps.flatMap fun d=>match d with | .agg qs=>qs.map litV | d=>[litV d]).toArray
 | _=>#[]
def laidWorld (P:Program) (os:Os):World :=
 { World.holding P os ⟨#[],#[],[]⟩ with heap:=(((World.holding P os ⟨#[],#[],[]⟩).heap.setIfInBounds 2 (.cells (rowV Rows.laid_unicode_utf8_first) 232 (0,0))).setIfInBounds 3 (.cells (rowV (Rows.laid_unicode_utf8_acceptRanges:DataW Unit)) 235 (0,0))) }
def zeroA:Value:=.agg #[.int .i64 0,.int .i64 0,.int .i64 0,.string ⟨#[]⟩,.string ⟨#[]⟩]
set_option maxRecDepth 100000 in
theorem laid_met (os:Os):laidMet Tryz.prog Rows.rangeParsesRow.laid ((laidWorld Tryz.prog os).forCall (fun _ _=>0) ⟨#[],#[.string ⟨#[]⟩],[]⟩).memory :=
 laidMet_of_run' 8 (by kernel_rfl) (by kernel_rfl)
theorem rangeParsesReads (os:Os) {H:Type} (enc:TypeId × Value->H):∃places,DataW.whole enc Tryz.prog ((laidWorld Tryz.prog os).forCall (fun _ _=>0) ⟨#[],#[.string ⟨#[]⟩],[]⟩).memory Tryz.f3.params.toList Rows.rangeParsesSpec.vars false #[Value.string ⟨#[]⟩].toList 8=some ([.lit (.string [])],[],places) :=
 ⟨[],by kernel_rfl⟩
set_option maxRecDepth 100000 in
theorem rangeParsesLifted (os:Os) (started:os.Started) (H:Type) (enc:TypeId × Value->H) (F:Stop.Interp) :
  ReturnsInHanded {} Tryz.checked os 3 .any ((OpenSpec.ofChange Rows.rangeParsesSpec).preRow enc Tryz.prog Tryz.f3 Rows.rangeParsesRow.domain false Rows.rangeParsesRow.laid) (((OpenSpec.ofChange Rows.rangeParsesSpec).at F).post enc Tryz.prog Tryz.f3 false true false false):=by
 obtain ⟨places,hx⟩:=rangeParsesReads os enc
 refine returnsInHanded_of_row (C:=Tryz.checked) (s:=OpenSpec.ofChange Rows.rangeParsesSpec) own started (by kernel_rfl) Tryz.func3
  (witness_row_at (enc:=enc) (C:=Tryz.checked) false (laidWorld Tryz.prog os) #[.string ⟨#[]⟩] rfl (by kernel_rfl) (by kernel_rfl) (by kernel_rfl)
   (OpenSpec.preRow_of_cond 8 hx (by kernel_rfl) (fun k hk=>by cases hk) (by kernel_rfl) (laid_met os))) ?_
 intro W base args ds gs before hval hW _ _ h2 hL _ _
 exact rangeParsesContract H enc W base args ds gs before hval hW hL h2
theorem rangeParsesAll:Rows.RangeParsesSaid :=
 OpenClaim.holds_of_cond 3 Tryz.f3 rfl rfl rfl rfl rfl rfl rfl ⟨rfl,rfl,rfl,rfl,rfl⟩ rfl rfl rfl rfl rfl (by kernel_rfl) Tryz.func3 (by kernel_rfl)
  (of_decide_eq_true (by kernel_rfl)) (by unfold Func.isWrapper;first | (rw [if_pos (by decide +kernel)];kernel_rfl) | (rw [if_neg (by decide +kernel)];exact ⟨rfl,rfl⟩))
  (fun os started H enc _ F=>by rw [OpenClaim.pre_eq_preRow];exact rangeParsesLifted os started H enc F)
theorem rangeParsesPlain (f:FuncId) (fn:Func) (hf:Tryz.pinned.checked.prog.funcNamed "pantry/pantrylaw.RangeParses"=some f) (hfn:Tryz.pinned.checked.prog.funcs[f]?=some fn) :
  true=Tryz.pinned.checked.prog.looks []/\∀(j:Nat) t,fn.params[j]?=some t->Tryz.pinned.checked.prog.wantsStandIn t=false:=by
 obtain rfl:f=3:=Option.some.inj ((show Tryz.prog.funcNamed "pantry/pantrylaw.RangeParses"=some 3 by kernel_rfl).symm.trans hf) |>.symm
 obtain rfl:fn=Tryz.f3:=(Option.some.inj (Tryz.func3.symm.trans hfn)).symm
 refine ⟨by kernel_rfl,fun j t ht=>?_⟩
 rw [Tryz.params3] at ht
 have hm:=Array.mem_of_getElem? ht
 simp only [List.mem_toArray,List.mem_cons,List.not_mem_nil,or_false] at hm
 subst hm
 exact (show Tryz.prog.wantsStandIn 9=false by kernel_rfl)
theorem rangeParses_card:Rows.RangeParsesCardSaid :=
 Claim7.holds_tied_plain_at .later [] _ _ _ _ rangeParsesAll (fun _ h=>by cases h) (by kernel_rfl) (fun _ h=>by cases h) rangeParses_row_tie rfl ⟨rfl,rfl⟩ (by kernel_rfl) rfl rangeParsesPlain (by kernel_rfl)
end Go.Proofs.YtonfldbigenfhaaGreatDoor
