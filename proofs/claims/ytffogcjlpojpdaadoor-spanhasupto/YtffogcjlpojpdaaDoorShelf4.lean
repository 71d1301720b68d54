import Derived.Shelf.Strings.Prefix
import Derived.Test.YtffogcjlpojpdaaDoorProg
namespace Go.Proofs
open Go.Shelf
def Tryd.lays99_ren : Go.Shelf.Ren := ⟨fun | 99 => 92 | 206 => 100 | n => n, fun | 22 => 126 | 23 => 83 | 27 => 48 | 28 => 61 | 31 => 57 | 37 => 92 | 40 => 136 | 41 => 59 | 43 => 47 | 46 => 104 | 47 => 103 | 51 => 119 | 52 => 118 | 53 => 121 | 54 => 120 | 55 => 105 | 59 => 62 | 60 => 63 | 63 => 109 | 64 => 125 | 68 => 58 | 69 => 91 | 80 => 140 | 81 => 146 | 104 => 60 | 105 => 107 | 106 => 108 | 111 => 44 | 112 => 56 | 114 => 106 | 115 => 94 | 116 => 95 | 117 => 96 | 118 => 97 | 119 => 132 | 122 => 93 | 123 => 98 | 124 => 99 | 127 => 122 | 131 => 116 | 137 => 133 | 138 => 134 | 139 => 135 | 146 => 123 | 151 => 124 | 164 => 160 | 182 => 111 | 183 => 112 | 218 => 127 | 219 => 128 | 220 => 129 | 222 => 79 | 228 => 137 | 229 => 138 | 238 => 141 | 239 => 142 | 240 => 143 | 241 => 144 | 242 => 145 | 243 => 147 | 244 => 148 | 245 => 149 | 246 => 150 | 247 => 151 | 248 => 152 | 249 => 153 | n => n, fun | 1 => 0 | 3 => 1 | 4 => 2 | n => n⟩
set_option maxRecDepth 100000 in
theorem Tryd.lays99 : Go.Proofs.Lays.n99 Tryd.prog Tryd.lays99_ren := {
  mixed := by kernel_rfl
  f99 := Tryd.func92.trans (congrArg some (by kernel_rfl))
  f206 := Tryd.func100.trans (congrArg some (by kernel_rfl))
  t3 := Tryd.underlying3
  a3 := Tryd.isAgg3
  z3 := Tryd.sizeOf3
  v3 := Tryd.zeroValue3
  t4 := Tryd.underlying4
  a4 := Tryd.isAgg4
  z4 := Tryd.sizeOf4
  v4 := Tryd.zeroValue4
  t9 := Tryd.underlying9
  a9 := Tryd.isAgg9
  z9 := Tryd.sizeOf9
  v9 := Tryd.zeroValue9 }
end Go.Proofs
