import Derived.Test.YtiinliaoojfjaaaGreatDoorF54
import Derived.Test.YtiinliaoojfjaaaGreatDoorCards
import Derived.Test.YtiinliaoojfjaaaGreatDoorTie
import Derived.Deep.DeepHandedRow
import Derived.Lib.LaidTab
set_option linter.all false
set_option maxRecDepth 100000
set_option maxHeartbeats 0
open Go.Proofs.Tryz
namespace Go.Proofs.YtiinliaoojfjaaaGreatDoor
open Go.ChangeShapes Go.WideShapes Go.ChangeAt Go.RowKit
open Go.ChangeMaps (open_string shut_string)
theorem own:ownKnob prog.godebug=none:=by kernel_rfl
theorem laidOut:laidOutB prog=true:=by kernel_rfl
theorem ajN(H:Type)(enc:TypeId × Value->H)(W:World)(base:Nat)(args:Array Value)(ds gs:List (DataW H))(before:List MemPlace)
  (hval:∀(j:Nat) t v,Tryz.f3.params[j]?=some t->args[j]?=some v->Value.okWide prog W .any base t v)
  (hW:DataW.Whole enc prog Tryz.f3.params.toList Rows.solveSolvesSpec.vars false W args.toList ds gs before) (hL:laidMetH prog Rows.solveSolvesUptoRow.laid W)
  (hcond:Rows.uptoSmall H (ds++gs)=true) :
  Calls prog 3 args W fun e W'=>∃v,e=.returned v/\Rows.solveSolvesSpec.post enc prog Tryz.f3 false true false false W args v W':=by
 have hW':=hW;obtain⟨p,q,hA0,hV,rfl,hfz,hnd⟩:=hW;have hA:DataW.TrodAll enc prog W 0 (fun _=>true) true Tryz.f3.params.toList args.toList ds p:=hA0;rw[params3]at hA hval;obtain⟨v0,vs0,d0,ds0,p0,q0,hargs0,rfl,rfl,h0,r0⟩:=trodAll_cons hA;obtain⟨v1,vs1,d1,ds1,p1,q1,hargs1,rfl,rfl,h1,r1⟩:=trodAll_cons r0;obtain⟨v2,vs2,d2,ds2,p2,q2,JU,rfl,rfl,h2,r2⟩:=trodAll_cons r1;obtain⟨v3,vs3,d3,ds3,p3,q3,Qm,rfl,rfl,h3,r3⟩:=trodAll_cons r2;obtain⟨rfl,rfl,rfl⟩:=trodAll_nil r3;obtain rfl:args=#[v0,v1,v2,v3]:=by cases args;simp_all
 obtain⟨rfl,rfl⟩:=trodVars_none hV;obtain⟨L0,hS0,hN0,hE0⟩:=IM (hval 0 22 v0 rfl rfl) h0;obtain⟨L1,hS1,hN1,hE1⟩:=EZ (hval 1 23 v1 rfl rfl) h1;obtain⟨L2,hS2,Qn,hE2⟩:=open_entries (hval 2 24 v2 rfl rfl) h2;obtain⟨d,rfl,rfl,rfl,wd⟩:=open_int underlying3 (hval 3 3 v3 rfl rfl) h3;have hb:=of_decide_eq_true hcond;simp only[List.append_nil,Rows.uptoBulkAll]at hb;have sa:Rows.uptoBulk d0<=1048576:=by omega
 have sb:Rows.uptoBulk d1<=1048576:=by omega
 have sc:Rows.uptoBulk d2<=1048576:=by omega
 clear hb hA0;simp only[List.append_nil]at hW';have Qo:=IP h0 hS0;have hfu:d<9223372036854775808:=by
  have h5:=wd;have hmax:IntKind.i64.max=9223372036854775807:=rfl;simp only[Lit.wf,Bool.and_eq_true,decide_eq_true_eq]at h5;omega
 refine(ajc v0 v1 v2 L0 L1 L2 d W hS0 hS1 hS2 (by omega) (by omega) (fun x hx=>by have:=hE1 x hx;omega) (fun y hy=>by have:=hE0 y hy;exact⟨by omega,by omega⟩) (fun x hx y hy=>by have:=(hE1 x hx).2.2.2 y hy;exact⟨by omega,by omega⟩) (fun x hx=>by have:=hE1 x hx;exact⟨by omega,by omega⟩) (by omega) (fun x hx=>by have:=hE2 x hx;omega) (fun x hx=>by have:=hE2 x hx;omega) hfu).mono fun e W' ⟨he,hgb⟩=>?_
 subst he;exact⟨_,rfl,_,_,_,[],_,[],hW',(trodAll_cons_mk (shut_bool underlying4 _) trodAll_mk0),(trodAll_cons_mk (Below.trod laidOut (by kernel_rfl) (of_decide_eq_true (by kernel_rfl)) h0 (jE hgb) (fun x hx=>hW'.lt x (by simp[hx]))) (trodAll_cons_mk (Below.trod laidOut (by kernel_rfl) (of_decide_eq_true (by kernel_rfl)) h1 (jE hgb) (fun x hx=>hW'.lt x (by simp[hx]))) (trodAll_cons_mk (Below.trod laidOut (by kernel_rfl) (of_decide_eq_true (by kernel_rfl)) h2 (jE hgb) (fun x hx=>hW'.lt x (by simp[hx]))) (trodAll_cons_mk (shut_int underlying3 wd) trodAll_mk0)))),rfl,(jE hgb).frame _,fun h=>by cases h⟩
def pO{H:Type}:DataW H->Value
 | .lit (.int k n)=>.int k n
 | _=>.bool false
def pR{H:Type}:DataW H->Array Value
 | .agg ps=>(ps.flatMap fun d=>match d with | .agg qs=>qs.map pO|d=>[pO d]).toArray
 | _=>#[]
def laidWorld(P:Program)(os:Os):World :=
 { World.holding P os ⟨#[],#[],[]⟩ with heap:=(((World.holding P os ⟨#[],#[],[]⟩).heap.setIfInBounds 2 (.cells (pR (Rows.laid_unicode_utf8_acceptRanges:DataW Unit)) 316 (0,0))).setIfInBounds 1 (.cells (pR Rows.laid_unicode_utf8_first) 313 (0,0))) }
def JV:Value:=.agg #[.int .i64 0,.int .i64 0,.int .i64 0,.string ⟨#[]⟩,.string ⟨#[]⟩]
theorem laid_met(os:Os):laidMet prog Rows.solveSolvesUptoRow.laid ((laidWorld prog os).forCall (fun _ _=>0) ⟨#[],#[.slice none 0 0,.slice none 0 0,.slice none 0 0,.int .i64 0],[]⟩).memory :=
 laidMet_of_run' 8 (by kernel_rfl) (by kernel_rfl)
theorem ajO(os:Os){H:Type}(enc:TypeId × Value->H):∃places,DataW.whole enc prog ((laidWorld prog os).forCall (fun _ _=>0) ⟨#[],#[.slice none 0 0,.slice none 0 0,.slice none 0 0,.int .i64 0],[]⟩).memory Tryz.f3.params.toList Rows.solveSolvesSpec.vars false #[Value.slice none 0 0,Value.slice none 0 0,Value.slice none 0 0,Value.int .i64 0].toList 8=some ([.nil,.nil,.nil,.lit (.int .i64 0)],[],places) :=
 ⟨[],by kernel_rfl⟩
theorem ajP(os:Os)(started:os.Started)(H:Type)(enc:TypeId × Value->H)(F:Stop.Interp) :
  ReturnsInHanded {} Tryz.checked os 3 .any ((Rows.OpenSpec.upto Rows.solveSolvesSpec).preRow enc prog Tryz.f3 Rows.solveSolvesUptoRow.domain false Rows.solveSolvesUptoRow.laid) (((Rows.OpenSpec.upto Rows.solveSolvesSpec).at F).post enc prog Tryz.f3 false true false false):=by
 obtain⟨places,hx⟩:=ajO os enc;refine returnsInHanded_of_row (C:=Tryz.checked) (s:=Rows.OpenSpec.upto Rows.solveSolvesSpec) own started (by kernel_rfl) func3
  (witness_row_at (enc:=enc) (C:=Tryz.checked) false (laidWorld prog os) #[.slice none 0 0,.slice none 0 0,.slice none 0 0,.int .i64 0] rfl (by kernel_rfl) (by kernel_rfl) (by kernel_rfl)
   (OpenSpec.preRow_of_cond 8 hx (by kernel_rfl) (fun k hk=>by cases hk;kernel_rfl) (by kernel_rfl) (laid_met os))) ?_
 intro W base args ds gs before hval hW _ hcond _ hL _ _;exact ajN H enc W base args ds gs before hval hW hL (hcond _ rfl)
theorem ajQ:Rows.SolveSolvesUptoSaid :=
 OpenClaim.holds_of_cond 3 Tryz.f3 rfl rfl rfl rfl rfl rfl rfl ⟨rfl,rfl,rfl,rfl,rfl⟩ rfl rfl rfl rfl rfl (by kernel_rfl) func3 (by kernel_rfl)
  (of_decide_eq_true (by kernel_rfl)) (by unfold Func.isWrapper;first|(rw[if_pos (by decide +kernel)];kernel_rfl)|(rw[if_neg (by decide +kernel)];exact⟨rfl,rfl⟩))
  (fun os started H enc _ F=>by rw[OpenClaim.pre_eq_preRow];exact ajP os started H enc F)
theorem ajR(f:FuncId)(fn:Func)(hf:Tryz.pinned.checked.prog.funcNamed "pantry/pantrylaw.SolveSolves"=some f)(hfn:Tryz.pinned.checked.prog.funcs[f]?=some fn) :
  true=Tryz.pinned.checked.prog.looks []/\∀(j:Nat) t,fn.params[j]?=some t->Tryz.pinned.checked.prog.wantsStandIn t=false:=by
 obtain rfl:f=3:=Option.some.inj ((show prog.funcNamed "pantry/pantrylaw.SolveSolves"=some 3 by kernel_rfl).symm.trans hf) |>.symm
 obtain rfl:fn=Tryz.f3:=(Option.some.inj (func3.symm.trans hfn)).symm;refine⟨by kernel_rfl,fun j t ht=>?_⟩;rw[params3]at ht;have hm:=Array.mem_of_getElem? ht;simp only[List.mem_toArray,List.mem_cons,List.not_mem_nil,or_false]at hm
 rcases hm with rfl|rfl|rfl|rfl
 ·exact(show prog.wantsStandIn 22=false by kernel_rfl)
 ·exact(show prog.wantsStandIn 23=false by kernel_rfl)
 ·exact(show prog.wantsStandIn 24=false by kernel_rfl)
 ·exact(show prog.wantsStandIn 3=false by kernel_rfl)
theorem solveSolvesUpto_card:Rows.SolveSolvesUptoCardSaid :=
 Claim7.holds_tied_plain_at .later [] _ _ _ _ ajQ (fun _ h=>by cases h) (by kernel_rfl) (fun _ h=>by cases h) solveSolvesUpto_row_tie rfl ⟨rfl,rfl⟩ (by kernel_rfl) rfl ajR (by kernel_rfl)
end Go.Proofs.YtiinliaoojfjaaaGreatDoor
