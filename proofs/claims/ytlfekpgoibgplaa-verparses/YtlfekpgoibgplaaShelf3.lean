import Derived.Shelf.Strconv.Clone
import Derived.Test.YtlfekpgoibgplaaProg
namespace Go.Proofs
open Go.Shelf
def Try.lays316_ren : Go.Shelf.Ren := ⟨fun | 316 => 32 | n => n, fun | 22 => 64 | 37 => 61 | 41 => 51 | 42 => 52 | 51 => 72 | 69 => 63 | 80 => 66 | 81 => 41 | 104 => 32 | 127 => 65 | 164 => 80 | 222 => 53 | 238 => 67 | 239 => 68 | 240 => 69 | 241 => 70 | 242 => 71 | 243 => 73 | 244 => 74 | 245 => 75 | 246 => 76 | 247 => 77 | 248 => 78 | 249 => 79 | n => n, fun  | n => n⟩
set_option maxRecDepth 100000 in
theorem Try.lays316 : Go.Proofs.LaysM.n316 Try.prog Try.lays316_ren := {
  mixed := by kernel_rfl
  f316 := Try.func32.trans (congrArg some (by kernel_rfl))
  t0 := Try.underlying0
  a0 := Try.isAgg0
  z0 := Try.sizeOf0
  v0 := Try.zeroValue0
  t3 := Try.underlying3
  a3 := Try.isAgg3
  z3 := Try.sizeOf3
  v3 := Try.zeroValue3
  t4 := Try.underlying4
  a4 := Try.isAgg4
  z4 := Try.sizeOf4
  v4 := Try.zeroValue4
  t9 := Try.underlying9
  a9 := Try.isAgg9
  z9 := Try.sizeOf9
  v9 := Try.zeroValue9
  t37 := Try.underlying61
  a37 := Try.isAgg61
  z37 := Try.sizeOf61
  v37 := Try.zeroValue61
  t127 := Try.underlying65
  a127 := Try.isAgg65
  z127 := Try.sizeOf65
  v127 := Try.zeroValue65
  t5 := Try.underlying5
  a5 := Try.isAgg5
  z5 := Try.sizeOf5
  v5 := Try.zeroValue5
  i0 := by kernel_rfl
  i3 := by kernel_rfl
  i4 := by kernel_rfl
  i5 := by kernel_rfl
  i9 := by kernel_rfl
  i37 := by kernel_rfl
  i127 := by kernel_rfl }
end Go.Proofs
