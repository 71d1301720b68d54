import Derived.Test.YtiinliaoojfjaaaGreatDoorF27
set_option linter.all false
set_option maxRecDepth 100000
set_option maxHeartbeats 0
open Go.Proofs.Tryz
namespace Go.Proofs.YtiinliaoojfjaaaGreatDoor
open Go.ChangeShapes Go.WideShapes Go.ChangeAt Go.RowKit
theorem ae9{H:Type}{enc:TypeId × Value->H}{w:World}{base:Nat}{spare:Nat->Bool}{held:Bool}{r:Reach}{b0:Nat}{v:Value}{d:DataW H}{p:List MemPlace}
  (hv:Value.okWide prog w r b0 51 v) (h:DataW.Trod enc prog w base spare held 51 v d p) :
  ∃(R:Re) (sv:Value),v=.agg #[.string R.nm,.string R.ve,sv,.string R.da]/\NdS w sv R.nd/\R.nm.size<=Rows.uptoBulk d/\R.ve.size<=Rows.uptoBulk d/\R.nd.length<=Rows.uptoBulk d/\∀y∈R.nd,y.n.size<=Rows.uptoBulk d/\y.r.size<=Rows.uptoBulk d:=by
 obtain⟨cs,rfl,hsz⟩:=okWide_struct underlying51 hv;obtain⟨fuel,hf⟩:=h;obtain⟨R,sv,hc,hn,h1,h2,h3,h4⟩:=Ut hf;have hcs:cs=#[.string R.nm,.string R.ve,sv,.string R.da]:=by
  apply Array.ext';simpa [Value.cells] using hc
 exact⟨R,sv,by rw[hcs],hn,h1,h2,h3,h4⟩
end Go.Proofs.YtiinliaoojfjaaaGreatDoor
