import Derived.Test.YteciokcdpadmpaaGreatDoorS01
import Derived.Test.YteciokcdpadmpaaGreatDoorS04
set_option linter.all false
set_option maxRecDepth 100000
set_option maxHeartbeats 0
open Go.Proofs.Tryz
namespace Go.Proofs.YteciokcdpadmpaaGreatDoor
open Go.RowKit Go.Shelf
theorem XE(s:ByteArray)(w:World)(hlim:s.size<=281474976710656) :
  Calls prog 176 #[.string s] w fun e w'=>e=.returned (.string s)/\Below w.heap.size w w':=Any.stringslite_Clone Tryz.lays316 s w hlim
theorem clone_any(s:ByteArray)(w:World)(hlim:s.size<=281474976710656) :
  Calls prog 157 #[.string s] w fun e w'=>e=.returned (.string s)/\w.grownBy w' none:=by
 have C:=ae (fun w=>XE s w hlim);clear hlim;go_enter func157,ntmps157;go_wp2_with (go_at_call 176;refine(C.o _).mono ?_;rintro e w1 ⟨rfl,hb⟩);go_ret;exact⟨rfl,⟨hb.os,hb.tape,hb.output,hb.size,fun k hk _=>hb.block k hk⟩⟩
end Go.Proofs.YteciokcdpadmpaaGreatDoor
