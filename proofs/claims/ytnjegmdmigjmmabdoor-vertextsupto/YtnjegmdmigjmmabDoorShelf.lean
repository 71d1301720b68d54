import Derived.Shelf.Small.Wraps
import Derived.Shelf.Strings.Trim
import Derived.Shelf.Strings.Search2
import Derived.Test.YtnjegmdmigjmmabDoorProg
namespace Go.Proofs
open Go.Shelf
def Tryd.lays122_ren : Go.Shelf.Ren := ⟨fun | 122 => 25 | 215 => 39 | n => n, fun | 23 => 86 | 27 => 51 | 28 => 70 | 31 => 66 | 37 => 65 | 40 => 128 | 41 => 68 | 42 => 82 | 43 => 50 | 46 => 111 | 47 => 112 | 51 => 109 | 52 => 118 | 53 => 94 | 54 => 95 | 55 => 113 | 59 => 71 | 60 => 72 | 63 => 116 | 64 => 121 | 68 => 67 | 69 => 88 | 80 => 129 | 81 => 59 | 83 => 43 | 84 => 83 | 104 => 69 | 105 => 114 | 106 => 115 | 111 => 47 | 114 => 106 | 115 => 100 | 116 => 101 | 117 => 102 | 118 => 103 | 119 => 124 | 122 => 99 | 123 => 104 | 124 => 105 | 127 => 117 | 137 => 125 | 138 => 126 | 139 => 127 | 146 => 119 | 151 => 120 | 164 => 148 | 171 => 93 | 172 => 96 | 173 => 97 | 174 => 98 | 211 => 107 | 212 => 108 | 213 => 110 | 222 => 89 | 232 => 122 | 233 => 123 | 238 => 130 | 239 => 131 | 240 => 132 | 241 => 133 | 242 => 134 | 243 => 135 | 244 => 136 | 245 => 137 | 246 => 138 | 247 => 139 | 248 => 140 | 249 => 141 | n => n, fun | 3 => 4 | 4 => 5 | 17 => 0 | 18 => 2 | 19 => 3 | n => n⟩
set_option maxRecDepth 100000 in
theorem Tryd.lays122 : Go.Proofs.Lays.n122 Tryd.prog Tryd.lays122_ren := {
  mixed := by kernel_rfl
  f122 := Tryd.func25.trans (congrArg some (by kernel_rfl))
  f215 := Tryd.func39.trans (congrArg some (by kernel_rfl))
  t3 := Tryd.underlying3
  a3 := Tryd.isAgg3
  z3 := Tryd.sizeOf3
  v3 := Tryd.zeroValue3
  t4 := Tryd.underlying4
  a4 := Tryd.isAgg4
  z4 := Tryd.sizeOf4
  v4 := Tryd.zeroValue4 }
def Tryd.lays161_ren : Go.Shelf.Ren := ⟨fun | 119 => 89 | 137 => 88 | 151 => 81 | 152 => 87 | 161 => 54 | 197 => 80 | 217 => 75 | 224 => 77 | 225 => 76 | 227 => 66 | 228 => 79 | 231 => 65 | 233 => 67 | 235 => 68 | 260 => 86 | 266 => 84 | n => n, fun | 23 => 86 | 27 => 51 | 28 => 70 | 31 => 66 | 37 => 65 | 40 => 128 | 41 => 68 | 42 => 82 | 43 => 50 | 46 => 111 | 47 => 112 | 51 => 109 | 52 => 118 | 53 => 94 | 54 => 95 | 55 => 113 | 59 => 71 | 60 => 72 | 63 => 116 | 64 => 121 | 68 => 67 | 69 => 88 | 80 => 129 | 81 => 59 | 83 => 43 | 84 => 83 | 104 => 69 | 105 => 114 | 106 => 115 | 111 => 47 | 114 => 106 | 115 => 100 | 116 => 101 | 117 => 102 | 118 => 103 | 119 => 124 | 122 => 99 | 123 => 104 | 124 => 105 | 127 => 117 | 137 => 125 | 138 => 126 | 139 => 127 | 146 => 119 | 151 => 120 | 164 => 148 | 171 => 93 | 172 => 96 | 173 => 97 | 174 => 98 | 211 => 107 | 212 => 108 | 213 => 110 | 222 => 89 | 232 => 122 | 233 => 123 | 238 => 130 | 239 => 131 | 240 => 132 | 241 => 133 | 242 => 134 | 243 => 135 | 244 => 136 | 245 => 137 | 246 => 138 | 247 => 139 | 248 => 140 | 249 => 141 | n => n, fun | 3 => 4 | 4 => 5 | 17 => 0 | 18 => 2 | 19 => 3 | n => n⟩
set_option maxRecDepth 100000 in
theorem Tryd.lays161 : Go.Proofs.Lays.n161 Tryd.prog Tryd.lays161_ren := {
  mixed := by kernel_rfl
  f119 := Tryd.func89.trans (congrArg some (by kernel_rfl))
  f137 := Tryd.func88.trans (congrArg some (by kernel_rfl))
  f151 := Tryd.func81.trans (congrArg some (by kernel_rfl))
  f152 := Tryd.func87.trans (congrArg some (by kernel_rfl))
  f161 := Tryd.func54.trans (congrArg some (by kernel_rfl))
  f197 := Tryd.func80.trans (congrArg some (by kernel_rfl))
  f217 := Tryd.func75.trans (congrArg some (by kernel_rfl))
  f224 := Tryd.func77.trans (congrArg some (by kernel_rfl))
  f225 := Tryd.func76.trans (congrArg some (by kernel_rfl))
  f227 := Tryd.func66.trans (congrArg some (by kernel_rfl))
  f228 := Tryd.func79.trans (congrArg some (by kernel_rfl))
  f231 := Tryd.func65.trans (congrArg some (by kernel_rfl))
  f233 := Tryd.func67.trans (congrArg some (by kernel_rfl))
  f235 := Tryd.func68.trans (congrArg some (by kernel_rfl))
  f260 := Tryd.func86.trans (congrArg some (by kernel_rfl))
  f266 := Tryd.func84.trans (congrArg some (by kernel_rfl))
  t0 := Tryd.underlying0
  a0 := Tryd.isAgg0
  z0 := Tryd.sizeOf0
  v0 := Tryd.zeroValue0
  t3 := Tryd.underlying3
  a3 := Tryd.isAgg3
  z3 := Tryd.sizeOf3
  v3 := Tryd.zeroValue3
  t4 := Tryd.underlying4
  a4 := Tryd.isAgg4
  z4 := Tryd.sizeOf4
  v4 := Tryd.zeroValue4
  t5 := Tryd.underlying5
  a5 := Tryd.isAgg5
  z5 := Tryd.sizeOf5
  v5 := Tryd.zeroValue5
  t9 := Tryd.underlying9
  a9 := Tryd.isAgg9
  z9 := Tryd.sizeOf9
  v9 := Tryd.zeroValue9
  t21 := Tryd.underlying21
  a21 := Tryd.isAgg21
  z21 := Tryd.sizeOf21
  v21 := Tryd.zeroValue21
  t46 := Tryd.underlying111
  a46 := Tryd.isAgg111
  z46 := Tryd.sizeOf111
  v46 := Tryd.zeroValue111
  t105 := Tryd.underlying114
  a105 := Tryd.isAgg114
  z105 := Tryd.sizeOf114
  v105 := Tryd.zeroValue114
  t116 := Tryd.underlying101
  a116 := Tryd.isAgg101
  z116 := Tryd.sizeOf101
  t117 := Tryd.underlying102
  a117 := Tryd.isAgg102
  z117 := Tryd.sizeOf102
  v117 := Tryd.zeroValue102
  t119 := Tryd.underlying124
  a119 := Tryd.isAgg124
  z119 := Tryd.sizeOf124
  t124 := Tryd.underlying105
  a124 := Tryd.isAgg105
  z124 := Tryd.sizeOf105
  v124 := Tryd.zeroValue105
  t138 := Tryd.underlying126
  a138 := Tryd.isAgg126
  z138 := Tryd.sizeOf126
  v138 := Tryd.zeroValue126
  t139 := Tryd.underlying127
  a139 := Tryd.isAgg127
  z139 := Tryd.sizeOf127
  v139 := Tryd.zeroValue127
  g3 := by kernel_rfl
  g4 := by kernel_rfl }
def Tryd.lays219_ren : Go.Shelf.Ren := ⟨fun | 217 => 75 | 219 => 64 | 224 => 77 | 225 => 76 | 266 => 84 | 267 => 78 | 314 => 85 | n => n, fun | 23 => 86 | 27 => 51 | 28 => 70 | 31 => 66 | 37 => 65 | 40 => 128 | 41 => 68 | 42 => 82 | 43 => 50 | 46 => 111 | 47 => 112 | 51 => 109 | 52 => 118 | 53 => 94 | 54 => 95 | 55 => 113 | 59 => 71 | 60 => 72 | 63 => 116 | 64 => 121 | 68 => 67 | 69 => 88 | 80 => 129 | 81 => 59 | 83 => 43 | 84 => 83 | 104 => 69 | 105 => 114 | 106 => 115 | 111 => 47 | 114 => 106 | 115 => 100 | 116 => 101 | 117 => 102 | 118 => 103 | 119 => 124 | 122 => 99 | 123 => 104 | 124 => 105 | 127 => 117 | 137 => 125 | 138 => 126 | 139 => 127 | 146 => 119 | 151 => 120 | 164 => 148 | 171 => 93 | 172 => 96 | 173 => 97 | 174 => 98 | 211 => 107 | 212 => 108 | 213 => 110 | 222 => 89 | 232 => 122 | 233 => 123 | 238 => 130 | 239 => 131 | 240 => 132 | 241 => 133 | 242 => 134 | 243 => 135 | 244 => 136 | 245 => 137 | 246 => 138 | 247 => 139 | 248 => 140 | 249 => 141 | n => n, fun | 3 => 4 | 4 => 5 | 17 => 0 | 18 => 2 | 19 => 3 | n => n⟩
set_option maxRecDepth 100000 in
theorem Tryd.lays219 : Go.Proofs.Lays.n219 Tryd.prog Tryd.lays219_ren := {
  mixed := by kernel_rfl
  f217 := Tryd.func75.trans (congrArg some (by kernel_rfl))
  f219 := Tryd.func64.trans (congrArg some (by kernel_rfl))
  f224 := Tryd.func77.trans (congrArg some (by kernel_rfl))
  f225 := Tryd.func76.trans (congrArg some (by kernel_rfl))
  f266 := Tryd.func84.trans (congrArg some (by kernel_rfl))
  f267 := Tryd.func78.trans (congrArg some (by kernel_rfl))
  f314 := Tryd.func85.trans (congrArg some (by kernel_rfl))
  t3 := Tryd.underlying3
  a3 := Tryd.isAgg3
  z3 := Tryd.sizeOf3
  v3 := Tryd.zeroValue3
  t4 := Tryd.underlying4
  a4 := Tryd.isAgg4
  z4 := Tryd.sizeOf4
  v4 := Tryd.zeroValue4
  t5 := Tryd.underlying5
  a5 := Tryd.isAgg5
  z5 := Tryd.sizeOf5
  v5 := Tryd.zeroValue5
  t9 := Tryd.underlying9
  a9 := Tryd.isAgg9
  z9 := Tryd.sizeOf9
  v9 := Tryd.zeroValue9
  t46 := Tryd.underlying111
  a46 := Tryd.isAgg111
  z46 := Tryd.sizeOf111
  v46 := Tryd.zeroValue111
  t51 := Tryd.underlying109
  a51 := Tryd.isAgg109
  z51 := Tryd.sizeOf109
  v51 := Tryd.zeroValue109
  t146 := Tryd.underlying119
  a146 := Tryd.isAgg119
  z146 := Tryd.sizeOf119
  v146 := Tryd.zeroValue119
  g1 := by kernel_rfl }
end Go.Proofs
