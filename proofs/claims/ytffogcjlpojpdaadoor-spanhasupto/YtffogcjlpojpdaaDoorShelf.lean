import Derived.Shelf.Small.Wraps
import Derived.Shelf.Strings.Trim
import Derived.Shelf.Strings.Search2
import Derived.Test.YtffogcjlpojpdaaDoorProg
namespace Go.Proofs
open Go.Shelf
def Tryd.lays122_ren : Go.Shelf.Ren := ⟨fun | 122 => 25 | 215 => 35 | n => n, fun | 22 => 126 | 23 => 83 | 27 => 48 | 28 => 61 | 31 => 57 | 37 => 92 | 40 => 136 | 41 => 59 | 43 => 47 | 46 => 104 | 47 => 103 | 51 => 119 | 52 => 118 | 53 => 121 | 54 => 120 | 55 => 105 | 59 => 62 | 60 => 63 | 63 => 109 | 64 => 125 | 68 => 58 | 69 => 91 | 80 => 140 | 81 => 146 | 104 => 60 | 105 => 107 | 106 => 108 | 111 => 44 | 112 => 56 | 114 => 106 | 115 => 94 | 116 => 95 | 117 => 96 | 118 => 97 | 119 => 132 | 122 => 93 | 123 => 98 | 124 => 99 | 127 => 122 | 131 => 116 | 137 => 133 | 138 => 134 | 139 => 135 | 146 => 123 | 151 => 124 | 164 => 160 | 182 => 111 | 183 => 112 | 218 => 127 | 219 => 128 | 220 => 129 | 222 => 79 | 228 => 137 | 229 => 138 | 238 => 141 | 239 => 142 | 240 => 143 | 241 => 144 | 242 => 145 | 243 => 147 | 244 => 148 | 245 => 149 | 246 => 150 | 247 => 151 | 248 => 152 | 249 => 153 | n => n, fun | 1 => 0 | 3 => 1 | 4 => 2 | n => n⟩
set_option maxRecDepth 100000 in
theorem Tryd.lays122 : Go.Proofs.Lays.n122 Tryd.prog Tryd.lays122_ren := {
  mixed := by kernel_rfl
  f122 := Tryd.func25.trans (congrArg some (by kernel_rfl))
  f215 := Tryd.func35.trans (congrArg some (by kernel_rfl))
  t3 := Tryd.underlying3
  a3 := Tryd.isAgg3
  z3 := Tryd.sizeOf3
  v3 := Tryd.zeroValue3
  t4 := Tryd.underlying4
  a4 := Tryd.isAgg4
  z4 := Tryd.sizeOf4
  v4 := Tryd.zeroValue4 }
def Tryd.lays161_ren : Go.Shelf.Ren := ⟨fun | 119 => 99 | 137 => 98 | 151 => 74 | 152 => 91 | 161 => 46 | 197 => 73 | 217 => 68 | 224 => 70 | 225 => 69 | 227 => 57 | 228 => 72 | 231 => 56 | 233 => 58 | 235 => 59 | 260 => 90 | 266 => 88 | n => n, fun | 22 => 126 | 23 => 83 | 27 => 48 | 28 => 61 | 31 => 57 | 37 => 92 | 40 => 136 | 41 => 59 | 43 => 47 | 46 => 104 | 47 => 103 | 51 => 119 | 52 => 118 | 53 => 121 | 54 => 120 | 55 => 105 | 59 => 62 | 60 => 63 | 63 => 109 | 64 => 125 | 68 => 58 | 69 => 91 | 80 => 140 | 81 => 146 | 104 => 60 | 105 => 107 | 106 => 108 | 111 => 44 | 112 => 56 | 114 => 106 | 115 => 94 | 116 => 95 | 117 => 96 | 118 => 97 | 119 => 132 | 122 => 93 | 123 => 98 | 124 => 99 | 127 => 122 | 131 => 116 | 137 => 133 | 138 => 134 | 139 => 135 | 146 => 123 | 151 => 124 | 164 => 160 | 182 => 111 | 183 => 112 | 218 => 127 | 219 => 128 | 220 => 129 | 222 => 79 | 228 => 137 | 229 => 138 | 238 => 141 | 239 => 142 | 240 => 143 | 241 => 144 | 242 => 145 | 243 => 147 | 244 => 148 | 245 => 149 | 246 => 150 | 247 => 151 | 248 => 152 | 249 => 153 | n => n, fun | 1 => 0 | 3 => 1 | 4 => 2 | n => n⟩
set_option maxRecDepth 100000 in
theorem Tryd.lays161 : Go.Proofs.Lays.n161 Tryd.prog Tryd.lays161_ren := {
  mixed := by kernel_rfl
  f119 := Tryd.func99.trans (congrArg some (by kernel_rfl))
  f137 := Tryd.func98.trans (congrArg some (by kernel_rfl))
  f151 := Tryd.func74.trans (congrArg some (by kernel_rfl))
  f152 := Tryd.func91.trans (congrArg some (by kernel_rfl))
  f161 := Tryd.func46.trans (congrArg some (by kernel_rfl))
  f197 := Tryd.func73.trans (congrArg some (by kernel_rfl))
  f217 := Tryd.func68.trans (congrArg some (by kernel_rfl))
  f224 := Tryd.func70.trans (congrArg some (by kernel_rfl))
  f225 := Tryd.func69.trans (congrArg some (by kernel_rfl))
  f227 := Tryd.func57.trans (congrArg some (by kernel_rfl))
  f228 := Tryd.func72.trans (congrArg some (by kernel_rfl))
  f231 := Tryd.func56.trans (congrArg some (by kernel_rfl))
  f233 := Tryd.func58.trans (congrArg some (by kernel_rfl))
  f235 := Tryd.func59.trans (congrArg some (by kernel_rfl))
  f260 := Tryd.func90.trans (congrArg some (by kernel_rfl))
  f266 := Tryd.func88.trans (congrArg some (by kernel_rfl))
  t0 := Tryd.underlying0
  a0 := Tryd.isAgg0
  z0 := Tryd.sizeOf0
  v0 := Tryd.zeroValue0
  t3 := Tryd.underlying3
  a3 := Tryd.isAgg3
  z3 := Tryd.sizeOf3
  v3 := Tryd.zeroValue3
  t4 := Tryd.underlying4
  a4 := Tryd.isAgg4
  z4 := Tryd.sizeOf4
  v4 := Tryd.zeroValue4
  t5 := Tryd.underlying5
  a5 := Tryd.isAgg5
  z5 := Tryd.sizeOf5
  v5 := Tryd.zeroValue5
  t9 := Tryd.underlying9
  a9 := Tryd.isAgg9
  z9 := Tryd.sizeOf9
  v9 := Tryd.zeroValue9
  t21 := Tryd.underlying21
  a21 := Tryd.isAgg21
  z21 := Tryd.sizeOf21
  v21 := Tryd.zeroValue21
  t46 := Tryd.underlying104
  a46 := Tryd.isAgg104
  z46 := Tryd.sizeOf104
  v46 := Tryd.zeroValue104
  t105 := Tryd.underlying107
  a105 := Tryd.isAgg107
  z105 := Tryd.sizeOf107
  v105 := Tryd.zeroValue107
  t116 := Tryd.underlying95
  a116 := Tryd.isAgg95
  z116 := Tryd.sizeOf95
  t117 := Tryd.underlying96
  a117 := Tryd.isAgg96
  z117 := Tryd.sizeOf96
  v117 := Tryd.zeroValue96
  t119 := Tryd.underlying132
  a119 := Tryd.isAgg132
  z119 := Tryd.sizeOf132
  t124 := Tryd.underlying99
  a124 := Tryd.isAgg99
  z124 := Tryd.sizeOf99
  v124 := Tryd.zeroValue99
  t138 := Tryd.underlying134
  a138 := Tryd.isAgg134
  z138 := Tryd.sizeOf134
  v138 := Tryd.zeroValue134
  t139 := Tryd.underlying135
  a139 := Tryd.isAgg135
  z139 := Tryd.sizeOf135
  v139 := Tryd.zeroValue135
  g3 := by kernel_rfl
  g4 := by kernel_rfl }
def Tryd.lays219_ren : Go.Shelf.Ren := ⟨fun | 217 => 68 | 219 => 54 | 224 => 70 | 225 => 69 | 266 => 88 | 267 => 71 | 314 => 89 | n => n, fun | 22 => 126 | 23 => 83 | 27 => 48 | 28 => 61 | 31 => 57 | 37 => 92 | 40 => 136 | 41 => 59 | 43 => 47 | 46 => 104 | 47 => 103 | 51 => 119 | 52 => 118 | 53 => 121 | 54 => 120 | 55 => 105 | 59 => 62 | 60 => 63 | 63 => 109 | 64 => 125 | 68 => 58 | 69 => 91 | 80 => 140 | 81 => 146 | 104 => 60 | 105 => 107 | 106 => 108 | 111 => 44 | 112 => 56 | 114 => 106 | 115 => 94 | 116 => 95 | 117 => 96 | 118 => 97 | 119 => 132 | 122 => 93 | 123 => 98 | 124 => 99 | 127 => 122 | 131 => 116 | 137 => 133 | 138 => 134 | 139 => 135 | 146 => 123 | 151 => 124 | 164 => 160 | 182 => 111 | 183 => 112 | 218 => 127 | 219 => 128 | 220 => 129 | 222 => 79 | 228 => 137 | 229 => 138 | 238 => 141 | 239 => 142 | 240 => 143 | 241 => 144 | 242 => 145 | 243 => 147 | 244 => 148 | 245 => 149 | 246 => 150 | 247 => 151 | 248 => 152 | 249 => 153 | n => n, fun | 1 => 0 | 3 => 1 | 4 => 2 | n => n⟩
set_option maxRecDepth 100000 in
theorem Tryd.lays219 : Go.Proofs.Lays.n219 Tryd.prog Tryd.lays219_ren := {
  mixed := by kernel_rfl
  f217 := Tryd.func68.trans (congrArg some (by kernel_rfl))
  f219 := Tryd.func54.trans (congrArg some (by kernel_rfl))
  f224 := Tryd.func70.trans (congrArg some (by kernel_rfl))
  f225 := Tryd.func69.trans (congrArg some (by kernel_rfl))
  f266 := Tryd.func88.trans (congrArg some (by kernel_rfl))
  f267 := Tryd.func71.trans (congrArg some (by kernel_rfl))
  f314 := Tryd.func89.trans (congrArg some (by kernel_rfl))
  t3 := Tryd.underlying3
  a3 := Tryd.isAgg3
  z3 := Tryd.sizeOf3
  v3 := Tryd.zeroValue3
  t4 := Tryd.underlying4
  a4 := Tryd.isAgg4
  z4 := Tryd.sizeOf4
  v4 := Tryd.zeroValue4
  t5 := Tryd.underlying5
  a5 := Tryd.isAgg5
  z5 := Tryd.sizeOf5
  v5 := Tryd.zeroValue5
  t9 := Tryd.underlying9
  a9 := Tryd.isAgg9
  z9 := Tryd.sizeOf9
  v9 := Tryd.zeroValue9
  t46 := Tryd.underlying104
  a46 := Tryd.isAgg104
  z46 := Tryd.sizeOf104
  v46 := Tryd.zeroValue104
  t51 := Tryd.underlying119
  a51 := Tryd.isAgg119
  z51 := Tryd.sizeOf119
  v51 := Tryd.zeroValue119
  t146 := Tryd.underlying123
  a146 := Tryd.isAgg123
  z146 := Tryd.sizeOf123
  v146 := Tryd.zeroValue123
  g1 := by kernel_rfl }
end Go.Proofs
