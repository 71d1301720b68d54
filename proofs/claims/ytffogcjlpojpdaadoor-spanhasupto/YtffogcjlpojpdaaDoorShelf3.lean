import Derived.Shelf.Strconv.Clone
import Derived.Test.YtffogcjlpojpdaaDoorProg
namespace Go.Proofs
open Go.Shelf
def Tryd.lays316_ren : Go.Shelf.Ren := ⟨fun | 316 => 67 | n => n, fun | 22 => 126 | 23 => 83 | 27 => 48 | 28 => 61 | 31 => 57 | 37 => 92 | 40 => 136 | 41 => 59 | 43 => 47 | 46 => 104 | 47 => 103 | 51 => 119 | 52 => 118 | 53 => 121 | 54 => 120 | 55 => 105 | 59 => 62 | 60 => 63 | 63 => 109 | 64 => 125 | 68 => 58 | 69 => 91 | 80 => 140 | 81 => 146 | 104 => 60 | 105 => 107 | 106 => 108 | 111 => 44 | 112 => 56 | 114 => 106 | 115 => 94 | 116 => 95 | 117 => 96 | 118 => 97 | 119 => 132 | 122 => 93 | 123 => 98 | 124 => 99 | 127 => 122 | 131 => 116 | 137 => 133 | 138 => 134 | 139 => 135 | 146 => 123 | 151 => 124 | 164 => 160 | 182 => 111 | 183 => 112 | 218 => 127 | 219 => 128 | 220 => 129 | 222 => 79 | 228 => 137 | 229 => 138 | 238 => 141 | 239 => 142 | 240 => 143 | 241 => 144 | 242 => 145 | 243 => 147 | 244 => 148 | 245 => 149 | 246 => 150 | 247 => 151 | 248 => 152 | 249 => 153 | n => n, fun | 1 => 0 | 3 => 1 | 4 => 2 | n => n⟩
set_option maxRecDepth 100000 in
theorem Tryd.lays316 : Go.Proofs.LaysM.n316 Tryd.prog Tryd.lays316_ren := {
  mixed := by kernel_rfl
  f316 := Tryd.func67.trans (congrArg some (by kernel_rfl))
  t0 := Tryd.underlying0
  a0 := Tryd.isAgg0
  z0 := Tryd.sizeOf0
  v0 := Tryd.zeroValue0
  t3 := Tryd.underlying3
  a3 := Tryd.isAgg3
  z3 := Tryd.sizeOf3
  v3 := Tryd.zeroValue3
  t4 := Tryd.underlying4
  a4 := Tryd.isAgg4
  z4 := Tryd.sizeOf4
  v4 := Tryd.zeroValue4
  t9 := Tryd.underlying9
  a9 := Tryd.isAgg9
  z9 := Tryd.sizeOf9
  v9 := Tryd.zeroValue9
  t37 := Tryd.underlying92
  a37 := Tryd.isAgg92
  z37 := Tryd.sizeOf92
  v37 := Tryd.zeroValue92
  t127 := Tryd.underlying122
  a127 := Tryd.isAgg122
  z127 := Tryd.sizeOf122
  v127 := Tryd.zeroValue122
  t5 := Tryd.underlying5
  a5 := Tryd.isAgg5
  z5 := Tryd.sizeOf5
  v5 := Tryd.zeroValue5
  i0 := by kernel_rfl
  i3 := by kernel_rfl
  i4 := by kernel_rfl
  i5 := by kernel_rfl
  i9 := by kernel_rfl
  i37 := by kernel_rfl
  i127 := by kernel_rfl }
end Go.Proofs
