import Derived.Shelf.Small.Wraps
import Derived.Shelf.Strings.Trim
import Derived.Shelf.Strings.Search2
import Derived.Test.YtnjegmdmigjmmacDoorProg
namespace Go.Proofs
open Go.Shelf
def Tryd.lays122_ren : Go.Shelf.Ren := ⟨fun | 122 => 13 | 215 => 18 | n => n, fun | 23 => 48 | 27 => 35 | 28 => 40 | 31 => 36 | 37 => 50 | 40 => 72 | 41 => 38 | 43 => 34 | 46 => 60 | 51 => 64 | 55 => 58 | 59 => 41 | 60 => 42 | 64 => 67 | 68 => 37 | 80 => 73 | 81 => 79 | 104 => 39 | 105 => 61 | 106 => 62 | 111 => 31 | 114 => 59 | 115 => 52 | 116 => 53 | 117 => 54 | 118 => 55 | 119 => 68 | 122 => 51 | 123 => 56 | 124 => 57 | 127 => 83 | 137 => 69 | 138 => 70 | 139 => 71 | 146 => 65 | 151 => 66 | 164 => 94 | 238 => 74 | 239 => 75 | 240 => 76 | 241 => 77 | 242 => 78 | 243 => 80 | 244 => 81 | 245 => 82 | 246 => 84 | 247 => 85 | 248 => 86 | 249 => 87 | n => n, fun | 1 => 0 | 3 => 1 | 4 => 2 | n => n⟩
set_option maxRecDepth 100000 in
theorem Tryd.lays122 : Go.Proofs.Lays.n122 Tryd.prog Tryd.lays122_ren := {
  mixed := by kernel_rfl
  f122 := Tryd.func13.trans (congrArg some (by kernel_rfl))
  f215 := Tryd.func18.trans (congrArg some (by kernel_rfl))
  t3 := Tryd.underlying3
  a3 := Tryd.isAgg3
  z3 := Tryd.sizeOf3
  v3 := Tryd.zeroValue3
  t4 := Tryd.underlying4
  a4 := Tryd.isAgg4
  z4 := Tryd.sizeOf4
  v4 := Tryd.zeroValue4 }
def Tryd.lays161_ren : Go.Shelf.Ren := ⟨fun | 119 => 43 | 137 => 42 | 151 => 37 | 152 => 41 | 161 => 24 | 197 => 36 | 217 => 31 | 224 => 33 | 225 => 32 | 227 => 28 | 228 => 35 | 231 => 27 | 233 => 29 | 235 => 30 | 260 => 40 | 266 => 38 | n => n, fun | 23 => 48 | 27 => 35 | 28 => 40 | 31 => 36 | 37 => 50 | 40 => 72 | 41 => 38 | 43 => 34 | 46 => 60 | 51 => 64 | 55 => 58 | 59 => 41 | 60 => 42 | 64 => 67 | 68 => 37 | 80 => 73 | 81 => 79 | 104 => 39 | 105 => 61 | 106 => 62 | 111 => 31 | 114 => 59 | 115 => 52 | 116 => 53 | 117 => 54 | 118 => 55 | 119 => 68 | 122 => 51 | 123 => 56 | 124 => 57 | 127 => 83 | 137 => 69 | 138 => 70 | 139 => 71 | 146 => 65 | 151 => 66 | 164 => 94 | 238 => 74 | 239 => 75 | 240 => 76 | 241 => 77 | 242 => 78 | 243 => 80 | 244 => 81 | 245 => 82 | 246 => 84 | 247 => 85 | 248 => 86 | 249 => 87 | n => n, fun | 1 => 0 | 3 => 1 | 4 => 2 | n => n⟩
set_option maxRecDepth 100000 in
theorem Tryd.lays161 : Go.Proofs.Lays.n161 Tryd.prog Tryd.lays161_ren := {
  mixed := by kernel_rfl
  f119 := Tryd.func43.trans (congrArg some (by kernel_rfl))
  f137 := Tryd.func42.trans (congrArg some (by kernel_rfl))
  f151 := Tryd.func37.trans (congrArg some (by kernel_rfl))
  f152 := Tryd.func41.trans (congrArg some (by kernel_rfl))
  f161 := Tryd.func24.trans (congrArg some (by kernel_rfl))
  f197 := Tryd.func36.trans (congrArg some (by kernel_rfl))
  f217 := Tryd.func31.trans (congrArg some (by kernel_rfl))
  f224 := Tryd.func33.trans (congrArg some (by kernel_rfl))
  f225 := Tryd.func32.trans (congrArg some (by kernel_rfl))
  f227 := Tryd.func28.trans (congrArg some (by kernel_rfl))
  f228 := Tryd.func35.trans (congrArg some (by kernel_rfl))
  f231 := Tryd.func27.trans (congrArg some (by kernel_rfl))
  f233 := Tryd.func29.trans (congrArg some (by kernel_rfl))
  f235 := Tryd.func30.trans (congrArg some (by kernel_rfl))
  f260 := Tryd.func40.trans (congrArg some (by kernel_rfl))
  f266 := Tryd.func38.trans (congrArg some (by kernel_rfl))
  t0 := Tryd.underlying0
  a0 := Tryd.isAgg0
  z0 := Tryd.sizeOf0
  v0 := Tryd.zeroValue0
  t3 := Tryd.underlying3
  a3 := Tryd.isAgg3
  z3 := Tryd.sizeOf3
  v3 := Tryd.zeroValue3
  t4 := Tryd.underlying4
  a4 := Tryd.isAgg4
  z4 := Tryd.sizeOf4
  v4 := Tryd.zeroValue4
  t5 := Tryd.underlying5
  a5 := Tryd.isAgg5
  z5 := Tryd.sizeOf5
  v5 := Tryd.zeroValue5
  t9 := Tryd.underlying9
  a9 := Tryd.isAgg9
  z9 := Tryd.sizeOf9
  v9 := Tryd.zeroValue9
  t21 := Tryd.underlying21
  a21 := Tryd.isAgg21
  z21 := Tryd.sizeOf21
  v21 := Tryd.zeroValue21
  t46 := Tryd.underlying60
  a46 := Tryd.isAgg60
  z46 := Tryd.sizeOf60
  v46 := Tryd.zeroValue60
  t105 := Tryd.underlying61
  a105 := Tryd.isAgg61
  z105 := Tryd.sizeOf61
  v105 := Tryd.zeroValue61
  t116 := Tryd.underlying53
  a116 := Tryd.isAgg53
  z116 := Tryd.sizeOf53
  t117 := Tryd.underlying54
  a117 := Tryd.isAgg54
  z117 := Tryd.sizeOf54
  v117 := Tryd.zeroValue54
  t119 := Tryd.underlying68
  a119 := Tryd.isAgg68
  z119 := Tryd.sizeOf68
  t124 := Tryd.underlying57
  a124 := Tryd.isAgg57
  z124 := Tryd.sizeOf57
  v124 := Tryd.zeroValue57
  t138 := Tryd.underlying70
  a138 := Tryd.isAgg70
  z138 := Tryd.sizeOf70
  v138 := Tryd.zeroValue70
  t139 := Tryd.underlying71
  a139 := Tryd.isAgg71
  z139 := Tryd.sizeOf71
  v139 := Tryd.zeroValue71
  g3 := by kernel_rfl
  g4 := by kernel_rfl }
def Tryd.lays219_ren : Go.Shelf.Ren := ⟨fun | 217 => 31 | 219 => 25 | 224 => 33 | 225 => 32 | 266 => 38 | 267 => 34 | 314 => 39 | n => n, fun | 23 => 48 | 27 => 35 | 28 => 40 | 31 => 36 | 37 => 50 | 40 => 72 | 41 => 38 | 43 => 34 | 46 => 60 | 51 => 64 | 55 => 58 | 59 => 41 | 60 => 42 | 64 => 67 | 68 => 37 | 80 => 73 | 81 => 79 | 104 => 39 | 105 => 61 | 106 => 62 | 111 => 31 | 114 => 59 | 115 => 52 | 116 => 53 | 117 => 54 | 118 => 55 | 119 => 68 | 122 => 51 | 123 => 56 | 124 => 57 | 127 => 83 | 137 => 69 | 138 => 70 | 139 => 71 | 146 => 65 | 151 => 66 | 164 => 94 | 238 => 74 | 239 => 75 | 240 => 76 | 241 => 77 | 242 => 78 | 243 => 80 | 244 => 81 | 245 => 82 | 246 => 84 | 247 => 85 | 248 => 86 | 249 => 87 | n => n, fun | 1 => 0 | 3 => 1 | 4 => 2 | n => n⟩
set_option maxRecDepth 100000 in
theorem Tryd.lays219 : Go.Proofs.Lays.n219 Tryd.prog Tryd.lays219_ren := {
  mixed := by kernel_rfl
  f217 := Tryd.func31.trans (congrArg some (by kernel_rfl))
  f219 := Tryd.func25.trans (congrArg some (by kernel_rfl))
  f224 := Tryd.func33.trans (congrArg some (by kernel_rfl))
  f225 := Tryd.func32.trans (congrArg some (by kernel_rfl))
  f266 := Tryd.func38.trans (congrArg some (by kernel_rfl))
  f267 := Tryd.func34.trans (congrArg some (by kernel_rfl))
  f314 := Tryd.func39.trans (congrArg some (by kernel_rfl))
  t3 := Tryd.underlying3
  a3 := Tryd.isAgg3
  z3 := Tryd.sizeOf3
  v3 := Tryd.zeroValue3
  t4 := Tryd.underlying4
  a4 := Tryd.isAgg4
  z4 := Tryd.sizeOf4
  v4 := Tryd.zeroValue4
  t5 := Tryd.underlying5
  a5 := Tryd.isAgg5
  z5 := Tryd.sizeOf5
  v5 := Tryd.zeroValue5
  t9 := Tryd.underlying9
  a9 := Tryd.isAgg9
  z9 := Tryd.sizeOf9
  v9 := Tryd.zeroValue9
  t46 := Tryd.underlying60
  a46 := Tryd.isAgg60
  z46 := Tryd.sizeOf60
  v46 := Tryd.zeroValue60
  t51 := Tryd.underlying64
  a51 := Tryd.isAgg64
  z51 := Tryd.sizeOf64
  v51 := Tryd.zeroValue64
  t146 := Tryd.underlying65
  a146 := Tryd.isAgg65
  z146 := Tryd.sizeOf65
  v146 := Tryd.zeroValue65
  g1 := by kernel_rfl }
end Go.Proofs
