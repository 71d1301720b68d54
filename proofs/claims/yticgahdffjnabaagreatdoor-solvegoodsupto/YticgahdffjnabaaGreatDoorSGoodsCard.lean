import Derived.Test.YticgahdffjnabaaGreatDoorM45
import Derived.Test.YticgahdffjnabaaGreatDoorCards
import Derived.Test.YticgahdffjnabaaGreatDoorTie
import Derived.Deep.DeepHandedRow
import Derived.Lib.LaidTab
set_option linter.unusedVariables false
namespace Go.Proofs.YticgahdffjnabaaGreatDoor
open Go.ChangeShapes Go.WideShapes Go.ChangeAt Go.RowKit
open Go.ChangeMaps (open_string shut_string)
theorem own:ownKnob Tryz.prog.godebug=none:=by kernel_rfl
theorem laidOut:laidOutB Tryz.prog=true:=by kernel_rfl
set_option maxRecDepth 100000 in
theorem solveGoodsContract (H:Type) (enc:TypeId × Value->H) (W:World) (base:Nat) (args:Array Value) (ds gs:List (DataW H)) (before:List MemPlace)
  (hval:∀(j:Nat) t v,Tryz.f3.params[j]?=some t->args[j]?=some v->Value.okWide Tryz.prog W .any base t v)
  (hW:DataW.Whole enc Tryz.prog Tryz.f3.params.toList Rows.solveGoodsSpec.vars false W args.toList ds gs before) (hL:laidMetH Tryz.prog Rows.solveGoodsUptoRow.laid W)
  (hcond:Rows.uptoSmall H (ds++gs)=true) :
  Calls Tryz.prog 3 args W fun e W'=>∃v,e=.returned v/\Rows.solveGoodsSpec.post enc Tryz.prog Tryz.f3 false true false false W args v W':=by
 have hW':=hW;obtain ⟨p,q,hA0,hV,rfl,hfz,hnd⟩:=hW;have hA:DataW.TrodAll enc Tryz.prog W 0 (fun _=>true) true Tryz.f3.params.toList args.toList ds p:=hA0;rw [Tryz.params3] at hA hval;obtain ⟨v0,vs0,d0,ds0,p0,q0,hargs0,rfl,rfl,h0,r0⟩:=trodAll_cons hA;obtain ⟨v1,vs1,d1,ds1,p1,q1,hargs1,rfl,rfl,h1,r1⟩:=trodAll_cons r0;obtain ⟨v2,vs2,d2,ds2,p2,q2,hargs2,rfl,rfl,h2,r2⟩:=trodAll_cons r1;obtain ⟨rfl,rfl,rfl⟩:=trodAll_nil r2;obtain rfl:args=#[v0,v1,v2]:=by cases args;simp_all
 obtain ⟨rfl,rfl⟩:=trodVars_none hV;obtain ⟨L0,hS0,hN0,hE0⟩:=open_needsA (hval 0 22 v0 rfl rfl) h0;obtain ⟨L1,hS1,hN1,hE1⟩:=open_releases (hval 1 23 v1 rfl rfl) h1;obtain ⟨L2,hS2,hN2⟩:=open_ints (hval 2 24 v2 rfl rfl) h2;have hb:=of_decide_eq_true hcond;simp only [List.append_nil,Rows.uptoBulkAll] at hb;have sa:Rows.uptoBulk d0<=1048576:=by omega
 have sb:Rows.uptoBulk d1<=1048576:=by omega
 have sc:Rows.uptoBulk d2<=1048576:=by omega
 clear hb hA0;simp only [List.append_nil] at hW';refine (solveGoodsLaw v0 v1 v2 L0 L1 L2 W hS0 hS1 hS2 (by omega) (by omega) (by omega) (fun y hy=>by have:=hE0 y hy;exact ⟨by omega,by omega⟩) (fun x hx=>by have:=hE1 x hx;exact ⟨by omega,by omega⟩) (fun x hx=>by have:=hE1 x hx;omega) (fun x hx y hy=>by have:=(hE1 x hx).2.2.2 y hy;exact ⟨by omega,by omega⟩)).mono fun e W' ⟨he,hgb⟩=>?_
 subst he;exact ⟨_,rfl,_,_,_,[],_,[],hW',(trodAll_cons_mk (shut_bool Tryz.underlying4 _) trodAll_mk0),(trodAll_cons_mk (Below.trod laidOut (by kernel_rfl) (of_decide_eq_true (by kernel_rfl)) h0 (gb_below hgb) (fun x hx=>hW'.lt x (by simp [hx]))) (trodAll_cons_mk (Below.trod laidOut (by kernel_rfl) (of_decide_eq_true (by kernel_rfl)) h1 (gb_below hgb) (fun x hx=>hW'.lt x (by simp [hx]))) (trodAll_cons_mk (Below.trod laidOut (by kernel_rfl) (of_decide_eq_true (by kernel_rfl)) h2 (gb_below hgb) (fun x hx=>hW'.lt x (by simp [hx]))) trodAll_mk0))),rfl,(gb_below hgb).frame _,fun h=>by cases h⟩
def litV {H:Type}:DataW H->Value
 | .lit (.int k n)=>.int k n
 | _=>.bool false
def rowV {H:Type}:DataW H->Array Value
 | .agg ps=>(ps.flatMap fun d=>match d with | .agg qs=>qs.map litV | d=>[litV d]).toArray
 | _=>#[]
def laidWorld (P:Program) (os:Os):World :=
 { World.holding P os ⟨#[],#[],[]⟩ with heap:=(((World.holding P os ⟨#[],#[],[]⟩).heap.setIfInBounds 2 (.cells (rowV (Rows.laid_unicode_utf8_acceptRanges:DataW Unit)) 244 (0,0))).setIfInBounds 1 (.cells (rowV Rows.laid_unicode_utf8_first) 241 (0,0))) }
def zeroA:Value:=.agg #[.int .i64 0,.int .i64 0,.int .i64 0,.string ⟨#[]⟩,.string ⟨#[]⟩]
set_option maxRecDepth 100000 in
theorem laid_met (os:Os):laidMet Tryz.prog Rows.solveGoodsUptoRow.laid ((laidWorld Tryz.prog os).forCall (fun _ _=>0) ⟨#[],#[.slice none 0 0,.slice none 0 0,.slice none 0 0],[]⟩).memory :=
 laidMet_of_run' 8 (by kernel_rfl) (by kernel_rfl)
theorem solveGoodsReads (os:Os) {H:Type} (enc:TypeId × Value->H):∃places,DataW.whole enc Tryz.prog ((laidWorld Tryz.prog os).forCall (fun _ _=>0) ⟨#[],#[.slice none 0 0,.slice none 0 0,.slice none 0 0],[]⟩).memory Tryz.f3.params.toList Rows.solveGoodsSpec.vars false #[Value.slice none 0 0,Value.slice none 0 0,Value.slice none 0 0].toList 8=some ([.nil,.nil,.nil],[],places) :=
 ⟨[],by kernel_rfl⟩
set_option maxRecDepth 100000 in
theorem solveGoodsLifted (os:Os) (started:os.Started) (H:Type) (enc:TypeId × Value->H) (F:Stop.Interp) :
  ReturnsInHanded {} Tryz.checked os 3 .any ((Rows.OpenSpec.upto Rows.solveGoodsSpec).preRow enc Tryz.prog Tryz.f3 Rows.solveGoodsUptoRow.domain false Rows.solveGoodsUptoRow.laid) (((Rows.OpenSpec.upto Rows.solveGoodsSpec).at F).post enc Tryz.prog Tryz.f3 false true false false):=by
 obtain ⟨places,hx⟩:=solveGoodsReads os enc;refine returnsInHanded_of_row (C:=Tryz.checked) (s:=Rows.OpenSpec.upto Rows.solveGoodsSpec) own started (by kernel_rfl) Tryz.func3
  (witness_row_at (enc:=enc) (C:=Tryz.checked) false (laidWorld Tryz.prog os) #[.slice none 0 0,.slice none 0 0,.slice none 0 0] rfl (by kernel_rfl) (by kernel_rfl) (by kernel_rfl)
   (OpenSpec.preRow_of_cond 8 hx (by kernel_rfl) (fun k hk=>by cases hk;kernel_rfl) (by kernel_rfl) (laid_met os))) ?_
 intro W base args ds gs before hval hW _ hcond _ hL _ _;exact solveGoodsContract H enc W base args ds gs before hval hW hL (hcond _ rfl)
theorem solveGoodsAll:Rows.SolveGoodsUptoSaid :=
 OpenClaim.holds_of_cond 3 Tryz.f3 rfl rfl rfl rfl rfl rfl rfl ⟨rfl,rfl,rfl,rfl,rfl⟩ rfl rfl rfl rfl rfl (by kernel_rfl) Tryz.func3 (by kernel_rfl)
  (of_decide_eq_true (by kernel_rfl)) (by unfold Func.isWrapper;first | (rw [if_pos (by decide +kernel)];kernel_rfl) | (rw [if_neg (by decide +kernel)];exact ⟨rfl,rfl⟩))
  (fun os started H enc _ F=>by rw [OpenClaim.pre_eq_preRow];exact solveGoodsLifted os started H enc F)
theorem solveGoodsPlain (f:FuncId) (fn:Func) (hf:Tryz.pinned.checked.prog.funcNamed "pantry/pantrylaw.SolveGoods"=some f) (hfn:Tryz.pinned.checked.prog.funcs[f]?=some fn) :
  true=Tryz.pinned.checked.prog.looks []/\∀(j:Nat) t,fn.params[j]?=some t->Tryz.pinned.checked.prog.wantsStandIn t=false:=by
 obtain rfl:f=3:=Option.some.inj ((show Tryz.prog.funcNamed "pantry/pantrylaw.SolveGoods"=some 3 by kernel_rfl).symm.trans hf) |>.symm
 obtain rfl:fn=Tryz.f3:=(Option.some.inj (Tryz.func3.symm.trans hfn)).symm;refine ⟨by kernel_rfl,fun j t ht=>?_⟩;rw [Tryz.params3] at ht;have hm:=Array.mem_of_getElem? ht;simp only [List.mem_toArray,List.mem_cons,List.not_mem_nil,or_false] at hm
 rcases hm with rfl | rfl | rfl
 ·exact (show Tryz.prog.wantsStandIn 22=false by kernel_rfl)
 ·exact (show Tryz.prog.wantsStandIn 23=false by kernel_rfl)
 ·exact (show Tryz.prog.wantsStandIn 24=false by kernel_rfl)
theorem solveGoodsUpto_card:Rows.SolveGoodsUptoCardSaid :=
 Claim7.holds_tied_plain_at .later [] _ _ _ _ solveGoodsAll (fun _ h=>by cases h) (by kernel_rfl) (fun _ h=>by cases h) solveGoodsUpto_row_tie rfl ⟨rfl,rfl⟩ (by kernel_rfl) rfl solveGoodsPlain (by kernel_rfl)
end Go.Proofs.YticgahdffjnabaaGreatDoor
