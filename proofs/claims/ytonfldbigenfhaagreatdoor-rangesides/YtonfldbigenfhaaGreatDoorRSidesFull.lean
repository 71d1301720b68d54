import Derived.Test.YtonfldbigenfhaaGreatDoorM47F
import Derived.Test.YtonfldbigenfhaaGreatDoorM37
import Derived.Test.YtonfldbigenfhaaGreatDoorCards
import Derived.Test.YtonfldbigenfhaaGreatDoorTie
import Derived.Deep.DeepHandedRow
import Derived.Lib.LaidTab
namespace Go.Proofs.YtonfldbigenfhaaGreatDoor
open Go.ChangeShapes Go.WideShapes Go.ChangeAt Go.RowKit
open Go.ChangeMaps (open_string shut_string)
set_option linter.unusedVariables false
theorem sized_ver {H:Type} {ts:List TypeId} {ds:List (DataW H)} (h:(DataW.weightsEach Tryz.prog ts ds).all (· <= reachBytes)=true) {j:Nat} {a1 a2 a3:Int} {a4 a5:ByteArray} (ht:ts[j]?=some 39) (hd:ds[j]?=some (datV a1 a2 a3 a4 a5)):a4.size<=reachBytes/\a5.size<=reachBytes:=by
 have hu:=Tryz.underlying39
 constructor
 · have:=List.all_eq_true.1 h _ (DataW.weights_mem_each ht hd a4.data.toList.length (by simp [datV,DataW.weights,DataW.weightsEach,hu]))
   simpa using this
 · have:=List.all_eq_true.1 h _ (DataW.weights_mem_each ht hd a5.data.toList.length (by simp [datV,DataW.weights,DataW.weightsEach,hu]))
   simpa using this
theorem own:ownKnob Tryz.prog.godebug=none:=by kernel_rfl
set_option maxRecDepth 100000 in
theorem rangeSidesContract (H:Type) (enc:TypeId × Value->H) (W:World) (base:Nat) (args:Array Value) (ds gs:List (DataW H)) (before:List MemPlace)
  (hval:∀(j:Nat) t v,Tryz.f10.params[j]?=some t->args[j]?=some v->Value.okWide Tryz.prog W .any base t v)
  (hW:DataW.Whole enc Tryz.prog Tryz.f10.params.toList Rows.rangeSidesSpec.vars false W args.toList ds gs before) (hL:laidMetH Tryz.prog Rows.rangeSidesRow.laid W)
  (hsz0:(DataW.weightsEach Tryz.prog (Tryz.f10.params.toList++Rows.rangeSidesSpec.plain.varTypes Tryz.prog) (ds++gs)).all (· <= reachBytes)=true) :
  Calls Tryz.prog 10 args W fun e W'=>∃v,e=.returned v/\Rows.rangeSidesSpec.post enc Tryz.prog Tryz.f10 false true false false W args v W':=by
 have hsz:=hsz0
 have hW':=hW
 obtain ⟨p,q,hA0,hV,rfl,hfz,hnd⟩:=hW
 have hA:DataW.TrodAll enc Tryz.prog W 0 (fun _=>true) true Tryz.f10.params.toList args.toList ds p:=hA0
 rw [Tryz.params10] at hA hval hsz
 obtain ⟨v0,vs0,d0,ds0,p0,q0,hargs0,rfl,rfl,h0,r0⟩:=trodAll_cons hA
 obtain ⟨v1,vs1,d1,ds1,p1,q1,hargs1,rfl,rfl,h1,r1⟩:=trodAll_cons r0
 obtain ⟨rfl,rfl,rfl⟩:=trodAll_nil r1
 obtain rfl:args=#[v0,v1]:=by cases args;simp_all
 obtain ⟨rfl,rfl⟩:=trodVars_none hV
 obtain ⟨a1,a2,a3,a4,a5,rfl,rfl,rfl,wa⟩:=open_ver (hval 0 39 v0 rfl rfl) h0
 obtain ⟨b1,b2,b3,b4,b5,rfl,rfl,rfl,wb⟩:=open_ver (hval 1 39 v1 rfl rfl) h1
 have sa:a4.size<=140737488351232/\a5.size<=140737488351232:=by have h:=sized_ver hsz (j:=0) rfl rfl;simpa [reachBytes] using h
 have sb:b4.size<=140737488351232/\b5.size<=140737488351232:=by have h:=sized_ver hsz (j:=1) rfl rfl;simpa [reachBytes] using h
 clear hA0 hsz hsz0
 simp only [List.append_nil] at hW'
 refine (rangeSidesLaw a1 a2 a3 a4 a5 b1 b2 b3 b4 b5 W (bounds_i64 wa.1) (bounds_i64 wa.2.1) (bounds_i64 wa.2.2.1) (bounds_i64 wb.1) (bounds_i64 wb.2.1) (bounds_i64 wb.2.2.1) sa.1 sa.2 sb.1 sb.2).mono fun e W' ⟨he,hgb⟩=>?_
 subst he
 exact ⟨_,rfl,_,_,_,[],[],[],hW',(trodAll_cons_mk (shut_bool Tryz.underlying4 _) trodAll_mk0),(trodAll_cons_mk (shut_ver wa) (trodAll_cons_mk (shut_ver wb) trodAll_mk0)),rfl,(gb_below hgb).frame _,fun h=>by cases h⟩
def litV {H:Type}:DataW H->Value
 | .lit (.int k n)=>.int k n
 | _=>.bool false
def rowV {H:Type}:DataW H->Array Value
 | .agg ps=>(ps.flatMap fun d=>match d with | .agg qs=>qs.map litV | d=>[litV d]).toArray
 | _=>#[]
def laidWorld (P:Program) (os:Os):World :=
 { World.holding P os ⟨#[],#[],[]⟩ with heap:=(((World.holding P os ⟨#[],#[],[]⟩).heap.setIfInBounds 2 (.cells (rowV Rows.laid_unicode_utf8_first) 232 (0,0))).setIfInBounds 3 (.cells (rowV (Rows.laid_unicode_utf8_acceptRanges:DataW Unit)) 235 (0,0))) }
def zeroA:Value:=.agg #[.int .i64 0,.int .i64 0,.int .i64 0,.string ⟨#[]⟩,.string ⟨#[]⟩]
set_option maxRecDepth 100000 in
theorem laid_met (os:Os):laidMet Tryz.prog Rows.rangeSidesRow.laid ((laidWorld Tryz.prog os).forCall (fun _ _=>0) ⟨#[],#[zeroA,zeroA],[]⟩).memory :=
 laidMet_of_run' 8 (by kernel_rfl) (by kernel_rfl)
theorem rangeSidesReads (os:Os) {H:Type} (enc:TypeId × Value->H):∃places,DataW.whole enc Tryz.prog ((laidWorld Tryz.prog os).forCall (fun _ _=>0) ⟨#[],#[zeroA,zeroA],[]⟩).memory Tryz.f10.params.toList Rows.rangeSidesSpec.vars false #[zeroA,zeroA].toList 8=some ([datV 0 0 0 ⟨#[]⟩ ⟨#[]⟩,datV 0 0 0 ⟨#[]⟩ ⟨#[]⟩],[],places) :=
 ⟨[],by kernel_rfl⟩
set_option maxRecDepth 100000 in
theorem rangeSidesLifted (os:Os) (started:os.Started) (H:Type) (enc:TypeId × Value->H) (F:Stop.Interp) :
  ReturnsInHanded {} Tryz.checked os 10 .any ((OpenSpec.ofChange Rows.rangeSidesSpec).preRow enc Tryz.prog Tryz.f10 Rows.rangeSidesRow.domain false Rows.rangeSidesRow.laid) (((OpenSpec.ofChange Rows.rangeSidesSpec).at F).post enc Tryz.prog Tryz.f10 false true false false):=by
 obtain ⟨places,hx⟩:=rangeSidesReads os enc
 refine returnsInHanded_of_row (C:=Tryz.checked) (s:=OpenSpec.ofChange Rows.rangeSidesSpec) own started (by kernel_rfl) Tryz.func10
  (witness_row_at (enc:=enc) (C:=Tryz.checked) false (laidWorld Tryz.prog os) #[zeroA,zeroA] rfl (by kernel_rfl) (by kernel_rfl) (by kernel_rfl)
   (OpenSpec.preRow_of_cond 8 hx (by kernel_rfl) (fun k hk=>by cases hk) (by kernel_rfl) (laid_met os))) ?_
 intro W base args ds gs before hval hW _ _ h2 hL _ _
 exact rangeSidesContract H enc W base args ds gs before hval hW hL h2
theorem rangeSidesAll:Rows.RangeSidesSaid :=
 OpenClaim.holds_of_cond 10 Tryz.f10 rfl rfl rfl rfl rfl rfl rfl ⟨rfl,rfl,rfl,rfl,rfl⟩ rfl rfl rfl rfl rfl (by kernel_rfl) Tryz.func10 (by kernel_rfl)
  (of_decide_eq_true (by kernel_rfl)) (by unfold Func.isWrapper;first | (rw [if_pos (by decide +kernel)];kernel_rfl) | (rw [if_neg (by decide +kernel)];exact ⟨rfl,rfl⟩))
  (fun os started H enc _ F=>by rw [OpenClaim.pre_eq_preRow];exact rangeSidesLifted os started H enc F)
theorem rangeSidesPlain (f:FuncId) (fn:Func) (hf:Tryz.pinned.checked.prog.funcNamed "pantry/pantrylaw.RangeSides"=some f) (hfn:Tryz.pinned.checked.prog.funcs[f]?=some fn) :
  true=Tryz.pinned.checked.prog.looks []/\∀(j:Nat) t,fn.params[j]?=some t->Tryz.pinned.checked.prog.wantsStandIn t=false:=by
 obtain rfl:f=10:=Option.some.inj ((show Tryz.prog.funcNamed "pantry/pantrylaw.RangeSides"=some 10 by kernel_rfl).symm.trans hf) |>.symm
 obtain rfl:fn=Tryz.f10:=(Option.some.inj (Tryz.func10.symm.trans hfn)).symm
 refine ⟨by kernel_rfl,fun j t ht=>?_⟩
 rw [Tryz.params10] at ht
 have hm:=Array.mem_of_getElem? ht
 simp only [List.mem_toArray,List.mem_cons,List.not_mem_nil,or_false] at hm
 rcases hm with rfl | rfl
 ·exact (show Tryz.prog.wantsStandIn 39=false by kernel_rfl)
 ·exact (show Tryz.prog.wantsStandIn 39=false by kernel_rfl)
theorem rangeSides_card:Rows.RangeSidesCardSaid :=
 Claim7.holds_tied_plain_at .later [] _ _ _ _ rangeSidesAll (fun _ h=>by cases h) (by kernel_rfl) (fun _ h=>by cases h) rangeSides_row_tie rfl ⟨rfl,rfl⟩ (by kernel_rfl) rfl rangeSidesPlain (by kernel_rfl)
end Go.Proofs.YtonfldbigenfhaaGreatDoor
