import Derived.Test.YtbgnflcebafjjaaGreatDoorA34
import Derived.Test.YtbgnflcebafjjaaGreatDoorA35
import Derived.Test.YtbgnflcebafjjaaGreatDoorCards
import Derived.Test.YtbgnflcebafjjaaGreatDoorTie
import Derived.ProofKit
import Derived.OpenShut
import Derived.ShutString
import Derived.SizedLaws
import Derived.Deep.DeepHandedRow
import Derived.Lib.LaidTab
namespace Go.Proofs.YtbgnflcebafjjaaGreatDoor
open Go.ChangeShapes Go.WideShapes Go.ChangeAt Go.RowKit
open Go.ChangeMaps (open_string shut_string)
set_option linter.unusedVariables false
theorem gTab:Tryz.prog.globalNamed "internal/strconv.uint64pow10"=some 9:=by kernel_rfl
theorem gTabType:(Tryz.prog.globals[9]?).map (·.type)=some 227:=by kernel_rfl
theorem cellsTab:Tryz.prog.cellsOf 227=20:=by kernel_rfl
theorem cellsU64:Tryz.prog.cellsOf 195=1:=by kernel_rfl
theorem table {W:World} (h:laidMetH Tryz.prog Rows.tomlAgainRow.laid W):Tab W:=by
 have h2:laidMetH Tryz.prog [("internal/strconv.uint64pow10",Rows.laid_internal_strconv_uint64pow10)] W:=h.filter (fun x=>x.1 == "internal/strconv.uint64pow10")
 exact Lib.tabIs_of_head (rest:=[]) (zs:=Lib.pow10Tab) gTab gTabType Tryz.underlying227 Tryz.underlying195 cellsU64 cellsTab h2
set_option maxRecDepth 100000 in
theorem laid_met2 (os:Os):laidMetH Tryz.prog Rows.tomlAgainRow.laid ((laidWorld Tryz.prog os).forCall (fun _ _=>0) ⟨#[],#[.string ⟨#[]⟩],[]⟩).memory :=
 laidMetH_of_parts (laidMet_of_run' 8 (by kernel_rfl) (by kernel_rfl)) (by kernel_rfl)
set_option maxRecDepth 100000 in
theorem lawContract (H:Type) (enc:TypeId × Value->H) (W:World) (base:Nat) (args:Array Value) (ds gs:List (DataW H)) (before:List MemPlace)
  (hval:∀(j:Nat) t v,Tryz.f5.params[j]?=some t->args[j]?=some v->Value.okWide Tryz.prog W .any base t v)
  (hW:DataW.Whole enc Tryz.prog Tryz.f5.params.toList Rows.tomlAgainSpec.vars false W args.toList ds gs before) (hL:laidMetH Tryz.prog Rows.tomlAgainRow.laid W)
  (hsz0:(DataW.weightsEach Tryz.prog (Tryz.f5.params.toList++Rows.tomlAgainSpec.plain.varTypes Tryz.prog) (ds++gs)).all (·<=reachBytes)=true) :
  Calls Tryz.prog 5 args W fun e W'=>∃v,e=.returned v/\Rows.tomlAgainSpec.post enc Tryz.prog Tryz.f5 false true false false W args v W':=by
 have hsz:=hsz0
 have hW':=hW
 obtain ⟨p,q,hA0,hV,rfl,hfz,hnd⟩:=hW
 have hA:DataW.TrodAll enc Tryz.prog W 0 (fun _=>true) true Tryz.f5.params.toList args.toList ds p:=hA0
 rw [Tryz.params5] at hA hval hsz
 obtain ⟨v0,vs0,d0,ds0,p0,q0,hargs,rfl,rfl,h0,r0⟩:=trodAll_cons hA
 obtain ⟨rfl,rfl,rfl⟩:=trodAll_nil r0
 obtain rfl:args=#[v0]:=by cases args;simp_all
 obtain ⟨rfl,rfl⟩:=trodVars_none hV
 obtain ⟨a0,rfl,rfl,rfl,w0⟩:=open_string Tryz.underlying9 (hval 0 9 v0 rfl rfl) h0
 have hlen:=sized_string hsz (j:=0) (t:=9) rfl rfl
 have hs:a0.size<=140737488351232:=by simpa [reachBytes] using hlen
 clear hA0 hsz hsz0
 simp only [List.append_nil] at hW'
 obtain ⟨E,b,G,S⟩:=tomlLaid (show laidMetH Tryz.prog Rows.tomlParsesRow.laid W from hL)
 refine (tomlAgainLaw a0 E b W G S (table hL) (Nat.lt_of_le_of_lt (Nat.zero_le _) G.t3) hs).mono fun e W' ⟨he,hgb⟩=>?_
 subst he
 exact ⟨_,rfl,_,_,_,[],[],[],hW',(trodAll_cons_mk (shut_bool Tryz.underlying4 _) trodAll_mk0),(trodAll_cons_mk (shut_string Tryz.underlying9 w0) trodAll_mk0),rfl,(gb_below hgb).frame _,fun h=>by cases h⟩
theorem lawReads (os:Os) {H:Type} (enc:TypeId × Value->H):∃places,DataW.whole enc Tryz.prog ((laidWorld Tryz.prog os).forCall (fun _ _=>0) ⟨#[],#[.string ⟨#[]⟩],[]⟩).memory Tryz.f5.params.toList Rows.tomlAgainSpec.vars false #[Value.string ⟨#[]⟩].toList 8=some ([.lit (.string [])],[],places) :=
 ⟨[],by kernel_rfl⟩
set_option maxRecDepth 100000 in
theorem lawLifted (os:Os) (started:os.Started) (H:Type) (enc:TypeId × Value->H) (F:Stop.Interp) :
  ReturnsInHanded {} Tryz.checked os 5 .any ((OpenSpec.ofChange Rows.tomlAgainSpec).preRow enc Tryz.prog Tryz.f5 Rows.tomlAgainRow.domain false Rows.tomlAgainRow.laid) (((OpenSpec.ofChange Rows.tomlAgainSpec).at F).post enc Tryz.prog Tryz.f5 false true false false):=by
 obtain ⟨places,hx⟩:=lawReads os enc
 refine returnsInHanded_of_row (C:=Tryz.checked) (s:=OpenSpec.ofChange Rows.tomlAgainSpec) own started (by kernel_rfl) Tryz.func5
  (witness_row_at (enc:=enc) (C:=Tryz.checked) false (laidWorld Tryz.prog os) #[.string ⟨#[]⟩] rfl (by kernel_rfl) (by kernel_rfl) (by kernel_rfl)
   (OpenSpec.preRow_of_cond 8 hx (by kernel_rfl) (fun k hk=>by cases hk) (by kernel_rfl) (laid_met2 os))) ?_
 intro W base args ds gs before hval hW _ _ h2 hL _ _
 exact lawContract H enc W base args ds gs before hval hW hL h2
theorem lawAll:Rows.TomlAgainSaid :=
 OpenClaim.holds_of_cond 5 Tryz.f5 rfl rfl rfl rfl rfl rfl rfl ⟨rfl,rfl,rfl,rfl,rfl⟩ rfl rfl rfl rfl rfl (by kernel_rfl) Tryz.func5 (by kernel_rfl)
  (of_decide_eq_true (by kernel_rfl)) (by unfold Func.isWrapper;first | (rw [if_pos (by decide +kernel)];kernel_rfl) | (rw [if_neg (by decide +kernel)];exact ⟨rfl,rfl⟩))
  (fun os started H enc _ F=>by rw [OpenClaim.pre_eq_preRow];exact lawLifted os started H enc F)
theorem lawPlain (f:FuncId) (fn:Func) (hf:Tryz.pinned.checked.prog.funcNamed "pantry/pantrylaw.TomlAgain"=some f) (hfn:Tryz.pinned.checked.prog.funcs[f]?=some fn) :
  true=Tryz.pinned.checked.prog.looks []/\∀(j:Nat) t,fn.params[j]?=some t->Tryz.pinned.checked.prog.wantsStandIn t=false:=by
 obtain rfl:f=5:=Option.some.inj ((show Tryz.prog.funcNamed "pantry/pantrylaw.TomlAgain"=some 5 by kernel_rfl).symm.trans hf) |>.symm
 obtain rfl:fn=Tryz.f5:=(Option.some.inj (Tryz.func5.symm.trans hfn)).symm
 refine ⟨by kernel_rfl,fun j t ht=>?_⟩
 rw [Tryz.params5] at ht
 obtain rfl:t=9:=by simpa using Array.mem_of_getElem? ht
 exact (show Tryz.prog.wantsStandIn 9=false by kernel_rfl)
theorem tomlAgain_card:Rows.TomlAgainCardSaid :=
 Claim7.holds_tied_plain_at .later [] _ _ _ _ lawAll (fun _ h=>by cases h) (by kernel_rfl) (fun _ h=>by cases h) tomlAgain_row_tie rfl ⟨rfl,rfl⟩ (by kernel_rfl) rfl lawPlain (by kernel_rfl)
end Go.Proofs.YtbgnflcebafjjaaGreatDoor
