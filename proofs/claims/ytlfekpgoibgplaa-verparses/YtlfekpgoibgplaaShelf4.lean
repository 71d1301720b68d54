import Derived.Shelf.Strings.Prefix
import Derived.Test.YtlfekpgoibgplaaProg
namespace Go.Proofs
open Go.Shelf
def Try.lays99_ren : Go.Shelf.Ren := ⟨fun | 99 => 29 | 206 => 33 | n => n, fun | 22 => 64 | 37 => 61 | 41 => 51 | 42 => 52 | 51 => 72 | 69 => 63 | 80 => 66 | 81 => 41 | 104 => 32 | 127 => 65 | 164 => 80 | 222 => 53 | 238 => 67 | 239 => 68 | 240 => 69 | 241 => 70 | 242 => 71 | 243 => 73 | 244 => 74 | 245 => 75 | 246 => 76 | 247 => 77 | 248 => 78 | 249 => 79 | n => n, fun  | n => n⟩
set_option maxRecDepth 100000 in
theorem Try.lays99 : Go.Proofs.Lays.n99 Try.prog Try.lays99_ren := {
  mixed := by kernel_rfl
  f99 := Try.func29.trans (congrArg some (by kernel_rfl))
  f206 := Try.func33.trans (congrArg some (by kernel_rfl))
  t3 := Try.underlying3
  a3 := Try.isAgg3
  z3 := Try.sizeOf3
  v3 := Try.zeroValue3
  t4 := Try.underlying4
  a4 := Try.isAgg4
  z4 := Try.sizeOf4
  v4 := Try.zeroValue4
  t9 := Try.underlying9
  a9 := Try.isAgg9
  z9 := Try.sizeOf9
  v9 := Try.zeroValue9 }
end Go.Proofs
