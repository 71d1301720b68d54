import Derived.Test.YtnnbgjaphfhibaaGreatDoorN08
set_option linter.unusedVariables false
set_option linter.unusedSimpArgs false
set_option maxRecDepth 100000
set_option maxHeartbeats 6400000
open Go.Proofs.Tryz
namespace Go.Proofs.YtnnbgjaphfhibaaGreatDoor
open Go.RowKit
theorem ab5(n:Int)(w:World):Calls prog 8 #[.int .i64 n] w fun e w'=>e=.returned (.int .i64 n)/\w'=w:=by
 go_enter func8,ntmps8;go_wp2;go_ret;exact⟨rfl,rfl⟩
theorem ab6(n:Int)(w:World):Calls prog 8 #[.int .i64 n] w fun e w'=>e=.returned (.int .i64 n)/\w.grownBy w' none:=by
 refine(ab5 n w).mono ?_;rintro e w' ⟨rfl,rfl⟩;exact⟨rfl,ak _ _⟩
end Go.Proofs.YtnnbgjaphfhibaaGreatDoor
