import Derived.Shelf.Strconv.Clone
import Derived.Test.YtlfekpgoibgplaaDoorProg
namespace Go.Proofs
open Go.Shelf
def Tryd.lays316_ren : Go.Shelf.Ren := ⟨fun | 316 => 86 | n => n, fun | 22 => 116 | 23 => 87 | 27 => 51 | 28 => 72 | 31 => 68 | 37 => 67 | 40 => 132 | 41 => 70 | 42 => 83 | 43 => 50 | 46 => 114 | 47 => 115 | 51 => 112 | 52 => 121 | 53 => 97 | 54 => 98 | 55 => 117 | 59 => 73 | 60 => 74 | 63 => 120 | 64 => 124 | 68 => 69 | 69 => 89 | 80 => 133 | 81 => 60 | 83 => 43 | 104 => 71 | 105 => 118 | 106 => 119 | 111 => 47 | 114 => 109 | 115 => 103 | 116 => 104 | 117 => 105 | 118 => 106 | 119 => 128 | 122 => 102 | 123 => 107 | 124 => 108 | 127 => 125 | 137 => 129 | 138 => 130 | 139 => 131 | 146 => 122 | 151 => 123 | 164 => 152 | 171 => 96 | 172 => 99 | 173 => 100 | 174 => 101 | 211 => 110 | 212 => 111 | 213 => 113 | 222 => 90 | 232 => 126 | 233 => 127 | 238 => 134 | 239 => 135 | 240 => 136 | 241 => 137 | 242 => 138 | 243 => 139 | 244 => 140 | 245 => 141 | 246 => 142 | 247 => 143 | 248 => 144 | 249 => 145 | n => n, fun | 3 => 4 | 4 => 5 | 17 => 0 | 18 => 2 | 19 => 3 | n => n⟩
set_option maxRecDepth 100000 in
theorem Tryd.lays316 : Go.Proofs.LaysM.n316 Tryd.prog Tryd.lays316_ren := {
  mixed := by kernel_rfl
  f316 := Tryd.func86.trans (congrArg some (by kernel_rfl))
  t0 := Tryd.underlying0
  a0 := Tryd.isAgg0
  z0 := Tryd.sizeOf0
  v0 := Tryd.zeroValue0
  t3 := Tryd.underlying3
  a3 := Tryd.isAgg3
  z3 := Tryd.sizeOf3
  v3 := Tryd.zeroValue3
  t4 := Tryd.underlying4
  a4 := Tryd.isAgg4
  z4 := Tryd.sizeOf4
  v4 := Tryd.zeroValue4
  t9 := Tryd.underlying9
  a9 := Tryd.isAgg9
  z9 := Tryd.sizeOf9
  v9 := Tryd.zeroValue9
  t37 := Tryd.underlying67
  a37 := Tryd.isAgg67
  z37 := Tryd.sizeOf67
  v37 := Tryd.zeroValue67
  t127 := Tryd.underlying125
  a127 := Tryd.isAgg125
  z127 := Tryd.sizeOf125
  v127 := Tryd.zeroValue125
  t5 := Tryd.underlying5
  a5 := Tryd.isAgg5
  z5 := Tryd.sizeOf5
  v5 := Tryd.zeroValue5
  i0 := by kernel_rfl
  i3 := by kernel_rfl
  i4 := by kernel_rfl
  i5 := by kernel_rfl
  i9 := by kernel_rfl
  i37 := by kernel_rfl
  i127 := by kernel_rfl }
end Go.Proofs
