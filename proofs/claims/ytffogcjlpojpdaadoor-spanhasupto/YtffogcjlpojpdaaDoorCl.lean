/-
  strings.Clone, by its contract.
-/
import Derived.Test.YtffogcjlpojpdaaDoorId
import Derived.Test.YtffogcjlpojpdaaDoorShelf3
namespace Go.Proofs.YtffogcjlpojpdaaDoor
open Go.RowKit Go.Shelf
set_option linter.unusedVariables false

theorem cloneL_any (s : ByteArray) (w : World) (hlim : s.size ≤ 281474976710656) :
    Calls Tryd.prog 67 #[.string s] w fun e w' => e = .returned (.string s) ∧ Below w.heap.size w w' := Any.stringslite_Clone Tryd.lays316 s w hlim
set_option maxHeartbeats 400000 in
theorem clone_any (s : ByteArray) (w : World) (hlim : s.size ≤ 281474976710656) :
    Calls Tryd.prog 53 #[.string s] w fun e w' => e = .returned (.string s) ∧ w.grownBy w' none := by
  have C : Hid (∀ w, Calls Tryd.prog 67 #[.string s] w fun e w' => e = .returned (.string s) ∧ Below w.heap.size w w') := fun w => cloneL_any s w hlim
  clear hlim
  go_enter Tryd.func53, Tryd.ntmps53
  go_wp2_with (first | (go_at_call 67; refine (C.out _).mono ?_; rintro e w1 ⟨rfl, hb⟩))
  go_ret
  exact ⟨rfl, ⟨hb.os, hb.tape, hb.output, hb.size, fun k hk _ => hb.block k hk⟩⟩

end Go.Proofs.YtffogcjlpojpdaaDoor
