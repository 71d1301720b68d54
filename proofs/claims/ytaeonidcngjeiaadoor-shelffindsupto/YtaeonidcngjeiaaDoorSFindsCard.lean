import Derived.Test.YtaeonidcngjeiaaDoorM14
import Derived.Test.YtaeonidcngjeiaaDoorM15
import Derived.Test.YtaeonidcngjeiaaDoorCards
import Derived.Test.YtaeonidcngjeiaaDoorTie
import Derived.Deep.DeepHandedRow
import Derived.Lib.LaidTab
namespace Go.Proofs.YtaeonidcngjeiaaDoor
open Go.ChangeShapes Go.WideShapes Go.ChangeAt Go.RowKit
open Go.ChangeMaps (open_string shut_string)
set_option linter.unusedVariables false
theorem own:ownKnob Tryd.prog.godebug=none:=by kernel_rfl
theorem laidOut:laidOutB Tryd.prog=true:=by kernel_rfl
set_option maxRecDepth 100000 in
theorem shelfFindsContract (H:Type) (enc:TypeId × Value->H) (W:World) (base:Nat) (args:Array Value) (ds gs:List (DataW H)) (before:List MemPlace)
  (hval:∀(j:Nat) t v,Tryd.f3.params[j]?=some t->args[j]?=some v->Value.okWide Tryd.prog W .any base t v)
  (hW:DataW.Whole enc Tryd.prog Tryd.f3.params.toList Rows.shelfFindsSpec.vars false W args.toList ds gs before) (hL:laidMetH Tryd.prog Rows.shelfFindsUptoRow.laid W)
  (hcond:Rows.uptoSmall H (ds++gs)=true) :
  Calls Tryd.prog 3 args W fun e W'=>∃v,e=.returned v/\Rows.shelfFindsSpec.post enc Tryd.prog Tryd.f3 false true false false W args v W':=by
 have hW':=hW
 obtain ⟨p,q,hA0,hV,rfl,hfz,hnd⟩:=hW
 have hA:DataW.TrodAll enc Tryd.prog W 0 (fun _=>true) true Tryd.f3.params.toList args.toList ds p:=hA0
 rw [Tryd.params3] at hA hval
 obtain ⟨v0,vs0,d0,ds0,p0,q0,hargs0,rfl,rfl,h0,r0⟩:=trodAll_cons hA
 obtain ⟨v1,vs1,d1,ds1,p1,q1,hargs1,rfl,rfl,h1,r1⟩:=trodAll_cons r0
 obtain ⟨v2,vs2,d2,ds2,p2,q2,hargs2,rfl,rfl,h2,r2⟩:=trodAll_cons r1
 obtain ⟨rfl,rfl,rfl⟩:=trodAll_nil r2
 obtain rfl:args=#[v0,v1,v2]:=by cases args;simp_all
 obtain ⟨rfl,rfl⟩:=trodVars_none hV
 obtain ⟨L0,hS0,hN0,hE0⟩:=open_releases (hval 0 22 v0 rfl rfl) h0
 obtain ⟨b,rfl,rfl,rfl,wb⟩:=open_string Tryd.underlying9 (hval 1 9 v1 rfl rfl) h1
 obtain ⟨c,rfl,rfl,rfl,wc⟩:=open_string Tryd.underlying9 (hval 2 9 v2 rfl rfl) h2
 have hb:=of_decide_eq_true hcond
 simp only [List.append_nil,Rows.uptoBulkAll,Rows.uptoBulk,Array.length_toList] at hb
 have sa:Rows.uptoBulk d0<=1048576:=by omega
 have sb:b.size<=1048576:=by have e4:b.data.size=b.size:=rfl;omega
 have sc:c.size<=1048576:=by have e4:c.data.size=c.size:=rfl;omega
 clear hb hA0
 simp only [List.append_nil] at hW'
 refine (shelfFindsLaw v0 L0 b c W hS0 (by omega) (fun x hx=>by have:=hE0 x hx;omega) (fun x hx=>by have:=hE0 x hx;omega) (by omega)).mono fun e W' ⟨he,hgb⟩=>?_
 subst he
 exact ⟨_,rfl,_,_,_,[],_,[],hW',(trodAll_cons_mk (shut_bool Tryd.underlying4 _) trodAll_mk0),(trodAll_cons_mk (Below.trod laidOut (by kernel_rfl) (of_decide_eq_true (by kernel_rfl)) h0 (gb_below hgb) (fun x hx=>hW'.lt x (by simp [hx]))) (trodAll_cons_mk (shut_string Tryd.underlying9 wb) (trodAll_cons_mk (shut_string Tryd.underlying9 wc) trodAll_mk0))),rfl,(gb_below hgb).frame _,fun h=>by cases h⟩
def litV {H:Type}:DataW H->Value
 | .lit (.int k n)=>.int k n
 | _=>.bool false
def rowV {H:Type}:DataW H->Array Value
 | .agg ps=>(ps.flatMap fun d=>match d with | .agg qs=>qs.map litV | d=>[litV d]).toArray
 | _=>#[]
def laidWorld (P:Program) (os:Os):World :=
 { World.holding P os ⟨#[],#[],[]⟩ with heap:=(((World.holding P os ⟨#[],#[],[]⟩).heap.setIfInBounds 1 (.cells (rowV Rows.laid_unicode_utf8_first) 146 (0,0))).setIfInBounds 2 (.cells (rowV (Rows.laid_unicode_utf8_acceptRanges:DataW Unit)) 149 (0,0))) }
def zeroA:Value:=.agg #[.int .i64 0,.int .i64 0,.int .i64 0,.string ⟨#[]⟩,.string ⟨#[]⟩]
set_option maxRecDepth 100000 in
theorem laid_met (os:Os):laidMet Tryd.prog Rows.shelfFindsUptoRow.laid ((laidWorld Tryd.prog os).forCall (fun _ _=>0) ⟨#[],#[.slice none 0 0,.string ⟨#[]⟩,.string ⟨#[]⟩],[]⟩).memory :=
 laidMet_of_run' 8 (by kernel_rfl) (by kernel_rfl)
theorem shelfFindsReads (os:Os) {H:Type} (enc:TypeId × Value->H):∃places,DataW.whole enc Tryd.prog ((laidWorld Tryd.prog os).forCall (fun _ _=>0) ⟨#[],#[.slice none 0 0,.string ⟨#[]⟩,.string ⟨#[]⟩],[]⟩).memory Tryd.f3.params.toList Rows.shelfFindsSpec.vars false #[Value.slice none 0 0,Value.string ⟨#[]⟩,Value.string ⟨#[]⟩].toList 8=some ([.nil,.lit (.string []),.lit (.string [])],[],places) :=
 ⟨[],by kernel_rfl⟩
set_option maxRecDepth 100000 in
theorem shelfFindsLifted (os:Os) (started:os.Started) (H:Type) (enc:TypeId × Value->H) (F:Stop.Interp) :
  ReturnsInHanded {} Tryd.checked os 3 .any ((Rows.OpenSpec.upto Rows.shelfFindsSpec).preRow enc Tryd.prog Tryd.f3 Rows.shelfFindsUptoRow.domain false Rows.shelfFindsUptoRow.laid) (((Rows.OpenSpec.upto Rows.shelfFindsSpec).at F).post enc Tryd.prog Tryd.f3 false true false false):=by
 obtain ⟨places,hx⟩:=shelfFindsReads os enc
 refine returnsInHanded_of_row (C:=Tryd.checked) (s:=Rows.OpenSpec.upto Rows.shelfFindsSpec) own started (by kernel_rfl) Tryd.func3
  (witness_row_at (enc:=enc) (C:=Tryd.checked) false (laidWorld Tryd.prog os) #[.slice none 0 0,.string ⟨#[]⟩,.string ⟨#[]⟩] rfl (by kernel_rfl) (by kernel_rfl) (by kernel_rfl)
   (OpenSpec.preRow_of_cond 8 hx (by kernel_rfl) (fun k hk=>by cases hk;kernel_rfl) (by kernel_rfl) (laid_met os))) ?_
 intro W base args ds gs before hval hW _ hcond _ hL _ _
 exact shelfFindsContract H enc W base args ds gs before hval hW hL (hcond _ rfl)
theorem shelfFindsAll:Rows.ShelfFindsUptoSaid :=
 OpenClaim.holds_of_cond 3 Tryd.f3 rfl rfl rfl rfl rfl rfl rfl ⟨rfl,rfl,rfl,rfl,rfl⟩ rfl rfl rfl rfl rfl (by kernel_rfl) Tryd.func3 (by kernel_rfl)
  (of_decide_eq_true (by kernel_rfl)) (by unfold Func.isWrapper;first | (rw [if_pos (by decide +kernel)];kernel_rfl) | (rw [if_neg (by decide +kernel)];exact ⟨rfl,rfl⟩))
  (fun os started H enc _ F=>by rw [OpenClaim.pre_eq_preRow];exact shelfFindsLifted os started H enc F)
theorem shelfFindsPlain (f:FuncId) (fn:Func) (hf:Tryd.pinned.checked.prog.funcNamed "pantry/pantrylaw.ShelfFinds"=some f) (hfn:Tryd.pinned.checked.prog.funcs[f]?=some fn) :
  true=Tryd.pinned.checked.prog.looks []/\∀(j:Nat) t,fn.params[j]?=some t->Tryd.pinned.checked.prog.wantsStandIn t=false:=by
 obtain rfl:f=3:=Option.some.inj ((show Tryd.prog.funcNamed "pantry/pantrylaw.ShelfFinds"=some 3 by kernel_rfl).symm.trans hf) |>.symm
 obtain rfl:fn=Tryd.f3:=(Option.some.inj (Tryd.func3.symm.trans hfn)).symm
 refine ⟨by kernel_rfl,fun j t ht=>?_⟩
 rw [Tryd.params3] at ht
 have hm:=Array.mem_of_getElem? ht
 simp only [List.mem_toArray,List.mem_cons,List.not_mem_nil,or_false] at hm
 rcases hm with rfl | rfl | rfl
 ·exact (show Tryd.prog.wantsStandIn 22=false by kernel_rfl)
 ·exact (show Tryd.prog.wantsStandIn 9=false by kernel_rfl)
 ·exact (show Tryd.prog.wantsStandIn 9=false by kernel_rfl)
theorem shelfFindsUpto_card:Rows.ShelfFindsUptoCardSaid :=
 Claim7.holds_tied_plain_at .later [] _ _ _ _ shelfFindsAll (fun _ h=>by cases h) (by kernel_rfl) (fun _ h=>by cases h) shelfFindsUpto_row_tie rfl ⟨rfl,rfl⟩ (by kernel_rfl) rfl shelfFindsPlain (by kernel_rfl)
end Go.Proofs.YtaeonidcngjeiaaDoor
