import Derived.Test.YtbcfhgpfgdbjgaaGreatDoorK37
import Derived.Test.YtbcfhgpfgdbjgaaGreatDoorK34
import Derived.Test.YtbcfhgpfgdbjgaaGreatDoorCards
import Derived.ProofKit
import Derived.OpenShut
import Derived.ShutString
import Derived.SizedLaws
import Derived.Deep.DeepHandedRow
set_option linter.all false
set_option maxRecDepth 100000
set_option maxHeartbeats 0
open Go.Proofs.Tryz
namespace Go.Proofs.YtbcfhgpfgdbjgaaGreatDoor
open Go.ChangeShapes Go.WideShapes Go.ChangeAt Go.RowKit
open Go.ChangeMaps (open_string shut_string)
theorem aaC(H:Type)(enc:TypeId × Value->H)(W:World)(base:Nat)(args:Array Value)(ds gs:List (DataW H))(before:List MemPlace)
  (hval:∀(j:Nat) t v,Tryz.f3.params[j]?=some t->args[j]?=some v->Value.okWide prog W .any base t v)
  (hW:DataW.Whole enc prog Tryz.f3.params.toList Rows.bookManifestsSpec.vars false W args.toList ds gs before) (hL:laidMetH prog Rows.bookManifestsRow.laid W)
  (hsz0:(DataW.weightsEach prog (Tryz.f3.params.toList++Rows.bookManifestsSpec.plain.varTypes prog) (ds++gs)).all (·<=reachBytes)=true) :
  Calls prog 3 args W fun e W'=>∃v,e=.returned v/\Rows.bookManifestsSpec.post enc prog Tryz.f3 false true false false W args v W':=by
 have hsz:=hsz0;have hW':=hW;obtain⟨p,q,hA0,hV,rfl,hfz,hnd⟩:=hW;have hA:DataW.TrodAll enc prog W 0 (fun _=>true) true Tryz.f3.params.toList args.toList ds p:=hA0;rw[params3]at hA hval hsz;obtain⟨v0,vs0,d0,ds0,p0,q0,hargs,rfl,rfl,h0,r0⟩:=trodAll_cons hA;obtain⟨rfl,rfl,rfl⟩:=trodAll_nil r0;obtain rfl:args=#[v0]:=by cases args;simp_all
 obtain⟨rfl,rfl⟩:=trodVars_none hV;obtain⟨a0,rfl,rfl,rfl,w0⟩:=open_string underlying9 (hval 0 9 v0 rfl rfl) h0;have hlen:=sized_string hsz (j:=0) (t:=9) rfl rfl;have hs:a0.size<=140737488351232:=by simpa [reachBytes] using hlen
 clear hA0 hsz hsz0;simp only[List.append_nil]at hW';obtain⟨E,b,G,S⟩:=aaD hL;refine(aaE a0 E b W G S (Nat.lt_of_le_of_lt (Nat.zero_le _) G.t3) (by omega)).mono fun e W' ⟨he,hgb⟩=>?_
 subst he;exact⟨_,rfl,_,_,_,[],[],[],hW',(trodAll_cons_mk (shut_bool underlying4 _) trodAll_mk0),(trodAll_cons_mk (shut_string underlying9 w0) trodAll_mk0),rfl,(y8 hgb).frame _,fun h=>by cases h⟩
theorem aaF(os:Os){H:Type}(enc:TypeId × Value->H):∃places,DataW.whole enc prog ((laidWorld prog os).forCall (fun _ _=>0) ⟨#[],#[.string ⟨#[]⟩],[]⟩).memory Tryz.f3.params.toList Rows.bookManifestsSpec.vars false #[Value.string ⟨#[]⟩].toList 8=some ([.lit (.string [])],[],places) :=
 ⟨[],by kernel_rfl⟩
theorem aaG(os:Os)(started:os.Started)(H:Type)(enc:TypeId × Value->H)(F:Stop.Interp) :
  ReturnsInHanded {} Tryz.checked os 3 .any ((OpenSpec.ofChange Rows.bookManifestsSpec).preRow enc prog Tryz.f3 Rows.bookManifestsRow.domain false Rows.bookManifestsRow.laid) (((OpenSpec.ofChange Rows.bookManifestsSpec).at F).post enc prog Tryz.f3 false true false false):=by
 obtain⟨places,hx⟩:=aaF os enc;refine returnsInHanded_of_row (C:=Tryz.checked) (s:=OpenSpec.ofChange Rows.bookManifestsSpec) own started (by kernel_rfl) func3
  (witness_row_at (enc:=enc) (C:=Tryz.checked) false (laidWorld prog os) #[.string ⟨#[]⟩] rfl (by kernel_rfl) (by kernel_rfl) (by kernel_rfl)
   (OpenSpec.preRow_of_cond 8 hx (by kernel_rfl) (fun k hk=>by cases hk) (by kernel_rfl) (laid_met os))) ?_
 intro W base args ds gs before hval hW _ _ h2 hL _ _;exact aaC H enc W base args ds gs before hval hW hL h2
theorem aaH:Rows.BookManifestsSaid :=
 OpenClaim.holds_of_cond 3 Tryz.f3 rfl rfl rfl rfl rfl rfl rfl ⟨rfl,rfl,rfl,rfl,rfl⟩ rfl rfl rfl rfl rfl (by kernel_rfl) func3 (by kernel_rfl)
  (of_decide_eq_true (by kernel_rfl)) (by unfold Func.isWrapper;first|(rw[if_pos (by decide +kernel)];kernel_rfl)|(rw[if_neg (by decide +kernel)];exact⟨rfl,rfl⟩))
  (fun os started H enc _ F=>by rw[OpenClaim.pre_eq_preRow];exact aaG os started H enc F)
theorem aaI(f:FuncId)(fn:Func)(hf:Tryz.pinned.checked.prog.funcNamed "pantry/pantrylaw.BookManifests"=some f)(hfn:Tryz.pinned.checked.prog.funcs[f]?=some fn) :
  true=Tryz.pinned.checked.prog.looks []/\∀(j:Nat) t,fn.params[j]?=some t->Tryz.pinned.checked.prog.wantsStandIn t=false:=by
 obtain rfl:f=3:=Option.some.inj ((show prog.funcNamed "pantry/pantrylaw.BookManifests"=some 3 by kernel_rfl).symm.trans hf) |>.symm
 obtain rfl:fn=Tryz.f3:=(Option.some.inj (func3.symm.trans hfn)).symm;refine⟨by kernel_rfl,fun j t ht=>?_⟩;rw[params3]at ht;obtain rfl:t=9:=by simpa using Array.mem_of_getElem? ht
 exact(show prog.wantsStandIn 9=false by kernel_rfl)
theorem bookManifests_card:Rows.BookManifestsCardSaid :=
 Claim7.holds_tied_plain_at .later [] _ _ _ _ aaH (fun _ h=>by cases h) (by kernel_rfl) (fun _ h=>by cases h) bookManifests_row_tie rfl ⟨rfl,rfl⟩ (by kernel_rfl) rfl aaI (by kernel_rfl)
end Go.Proofs.YtbcfhgpfgdbjgaaGreatDoor
