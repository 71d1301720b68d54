import Derived.Test.YtmkjelchiacogaaGreatDoorM31
import Derived.Test.YtmkjelchiacogaaGreatDoorCards
import Derived.Test.YtmkjelchiacogaaGreatDoorTie
import Derived.ProofKit
import Derived.OpenShut
import Derived.SizedLaws
import Derived.Deep.DeepHandedRow
import Derived.Lib.LaidTab
set_option linter.unusedVariables false
set_option linter.unusedSimpArgs false
set_option maxRecDepth 100000
set_option maxHeartbeats 6400000
open Go.Proofs.Tryz
namespace Go.Proofs.YtmkjelchiacogaaGreatDoor
open Go.ChangeShapes Go.WideShapes Go.ChangeAt Go.RowKit
open Go.ChangeMaps (open_string shut_string)
theorem laidOut:laidOutB prog=true:=by kernel_rfl
theorem gTab:prog.globalNamed "internal/strconv.uint64pow10"=some 6:=by kernel_rfl
theorem YM:(prog.globals[6]?).map (·.type)=some 272:=by kernel_rfl
theorem YN:prog.cellsOf 272=20:=by kernel_rfl
theorem YO:prog.cellsOf 237=1:=by kernel_rfl
theorem table{W:World}(h:laidMetH prog Rows.bookBackUptoRow.laid W):Tab W:=by
 have h2:laidMetH prog [("internal/strconv.uint64pow10",Rows.laid_internal_strconv_uint64pow10)] W:=h.filter (fun x=>x.1 == "internal/strconv.uint64pow10");exact Lib.tabIs_of_head (rest:=[]) (zs:=Lib.pow10Tab) gTab YM underlying272 underlying237 YO YN h2
theorem YP(H:Type)(enc:TypeId × Value->H)(W:World)(base:Nat)(args:Array Value)(ds gs:List (DataW H))(before:List MemPlace)
  (hval:∀(j:Nat) t v,Tryz.f3.params[j]?=some t->args[j]?=some v->Value.okWide prog W .any base t v)
  (hW:DataW.Whole enc prog Tryz.f3.params.toList Rows.bookBackSpec.vars false W args.toList ds gs before) (hL:laidMetH prog Rows.bookBackUptoRow.laid W)
  (hcond:Rows.uptoSmall H (ds++gs)=true) :
  Calls prog 3 args W fun e W'=>∃v,e=.returned v/\Rows.bookBackSpec.post enc prog Tryz.f3 false true false false W args v W':=by
 have hW':=hW;obtain⟨p,q,hA0,hV,rfl,hfz,hnd⟩:=hW;have hA:DataW.TrodAll enc prog W 0 (fun _=>true) true Tryz.f3.params.toList args.toList ds p:=hA0;rw[params3]at hA hval;obtain⟨v0,vs0,d0,ds0,p0,q0,hargs0,rfl,rfl,h0,r0⟩:=trodAll_cons hA;obtain⟨rfl,rfl,rfl⟩:=trodAll_nil r0;obtain rfl:args=#[v0]:=by cases args;simp_all
 obtain⟨rfl,rfl⟩:=trodVars_none hV;obtain⟨L0,hS0,hN0,hE0⟩:=open_entries (hval 0 22 v0 rfl rfl) h0;have hb:=of_decide_eq_true hcond;simp only[List.append_nil,Rows.uptoBulkAll]at hb;have sa:Rows.uptoBulk d0<=1048576:=by omega
 clear hb hA0;simp only[List.append_nil]at hW';obtain⟨E,b,G,S⟩:=YQ hL;refine(YR v0 L0 W hS0 (by omega) (fun x hx=>by have:=hE0 x hx;exact⟨by omega,by omega,by omega⟩) (fun x hx=>by have:=hE0 x hx;omega) (fun x hx y hy=>by have:=(hE0 x hx).2.2.2.2 y hy;omega) E b G S (table hL)).mono fun e W' ⟨he,hgb⟩=>?_
 subst he;exact⟨_,rfl,_,_,_,[],_,[],hW',(trodAll_cons_mk (shut_bool underlying4 _) trodAll_mk0),(trodAll_cons_mk (Below.trod laidOut (by kernel_rfl) (of_decide_eq_true (by kernel_rfl)) h0 (uf hgb) (fun x hx=>hW'.lt x (by simp[hx]))) trodAll_mk0),rfl,(uf hgb).frame _,fun h=>by cases h⟩
theorem YS(os:Os){H:Type}(enc:TypeId × Value->H):∃places,DataW.whole enc prog ((laidWorld prog os).forCall (fun _ _=>0) ⟨#[],#[.slice none 0 0],[]⟩).memory Tryz.f3.params.toList Rows.bookBackSpec.vars false #[Value.slice none 0 0].toList 8=some ([.nil],[],places) :=
 ⟨[],by kernel_rfl⟩
theorem YT(os:Os)(started:os.Started)(H:Type)(enc:TypeId × Value->H)(F:Stop.Interp) :
  ReturnsInHanded {} Tryz.checked os 3 .any ((Rows.OpenSpec.upto Rows.bookBackSpec).preRow enc prog Tryz.f3 Rows.bookBackUptoRow.domain false Rows.bookBackUptoRow.laid) (((Rows.OpenSpec.upto Rows.bookBackSpec).at F).post enc prog Tryz.f3 false true false false):=by
 obtain⟨places,hx⟩:=YS os enc;refine returnsInHanded_of_row (C:=Tryz.checked) (s:=Rows.OpenSpec.upto Rows.bookBackSpec) own started (by kernel_rfl) func3
  (witness_row_at (enc:=enc) (C:=Tryz.checked) false (laidWorld prog os) #[.slice none 0 0] rfl (by kernel_rfl) (by kernel_rfl) (by kernel_rfl)
   (OpenSpec.preRow_of_cond 8 hx (by kernel_rfl) (fun k hk=>by cases hk;kernel_rfl) (by kernel_rfl) (laid_met os))) ?_
 intro W base args ds gs before hval hW _ hcond _ hL _ _;exact YP H enc W base args ds gs before hval hW hL (hcond _ rfl)
theorem YU:Rows.BookBackUptoSaid :=
 OpenClaim.holds_of_cond 3 Tryz.f3 rfl rfl rfl rfl rfl rfl rfl ⟨rfl,rfl,rfl,rfl,rfl⟩ rfl rfl rfl rfl rfl (by kernel_rfl) func3 (by kernel_rfl)
  (of_decide_eq_true (by kernel_rfl)) (by unfold Func.isWrapper;first|(rw[if_pos (by decide +kernel)];kernel_rfl)|(rw[if_neg (by decide +kernel)];exact⟨rfl,rfl⟩))
  (fun os started H enc _ F=>by rw[OpenClaim.pre_eq_preRow];exact YT os started H enc F)
theorem YV(f:FuncId)(fn:Func)(hf:Tryz.pinned.checked.prog.funcNamed "pantry/pantrylaw.BookBack"=some f)(hfn:Tryz.pinned.checked.prog.funcs[f]?=some fn) :
  true=Tryz.pinned.checked.prog.looks []/\∀(j:Nat) t,fn.params[j]?=some t->Tryz.pinned.checked.prog.wantsStandIn t=false:=by
 obtain rfl:f=3:=Option.some.inj ((show prog.funcNamed "pantry/pantrylaw.BookBack"=some 3 by kernel_rfl).symm.trans hf) |>.symm
 obtain rfl:fn=Tryz.f3:=(Option.some.inj (func3.symm.trans hfn)).symm;refine⟨by kernel_rfl,fun j t ht=>?_⟩;rw[params3]at ht;have hm:=Array.mem_of_getElem? ht;simp only[List.mem_toArray,List.mem_cons,List.not_mem_nil,or_false]at hm;subst hm;exact(show prog.wantsStandIn 22=false by kernel_rfl)
theorem bookBackUpto_card:Rows.BookBackUptoCardSaid :=
 Claim7.holds_tied_plain_at .later [] _ _ _ _ YU (fun _ h=>by cases h) (by kernel_rfl) (fun _ h=>by cases h) bookBackUpto_row_tie rfl ⟨rfl,rfl⟩ (by kernel_rfl) rfl YV (by kernel_rfl)
end Go.Proofs.YtmkjelchiacogaaGreatDoor
