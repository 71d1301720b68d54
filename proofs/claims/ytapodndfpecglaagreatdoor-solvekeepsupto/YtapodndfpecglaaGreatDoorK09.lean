import Derived.Test.YtapodndfpecglaaGreatDoorK01
import Derived.Test.YtapodndfpecglaaGreatDoorK04
set_option linter.all false
set_option maxRecDepth 100000
set_option maxHeartbeats 0
open Go.Proofs.Tryz
namespace Go.Proofs.YtapodndfpecglaaGreatDoor
open Go.RowKit Go.Shelf
theorem Wy(s:ByteArray)(w:World)(hlim:s.size<=281474976710656) :
  Calls prog 181 #[.string s] w fun e w'=>e=.returned (.string s)/\Below w.heap.size w w':=Any.stringslite_Clone Tryz.lays316 s w hlim
theorem clone_any(s:ByteArray)(w:World)(hlim:s.size<=281474976710656) :
  Calls prog 164 #[.string s] w fun e w'=>e=.returned (.string s)/\w.grownBy w' none:=by
 have C:=ae (fun w=>Wy s w hlim);clear hlim;go_enter func164,ntmps164;go_wp2_with (go_at_call 181;refine(C.o _).mono ?_;rintro e w1 ⟨rfl,hb⟩);go_ret;exact⟨rfl,⟨hb.os,hb.tape,hb.output,hb.size,fun k hk _=>hb.block k hk⟩⟩
end Go.Proofs.YtapodndfpecglaaGreatDoor
