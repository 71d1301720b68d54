import Derived.Shelf.Small.Wraps
import Derived.Shelf.Strings.Trim
import Derived.Shelf.Strings.Search2
import Derived.Test.YtlfekpgoibgplaaDoorProg
namespace Go.Proofs
open Go.Shelf
def Tryd.lays122_ren : Go.Shelf.Ren := ⟨fun | 122 => 26 | 215 => 41 | n => n, fun | 22 => 116 | 23 => 87 | 27 => 51 | 28 => 72 | 31 => 68 | 37 => 67 | 40 => 132 | 41 => 70 | 42 => 83 | 43 => 50 | 46 => 114 | 47 => 115 | 51 => 112 | 52 => 121 | 53 => 97 | 54 => 98 | 55 => 117 | 59 => 73 | 60 => 74 | 63 => 120 | 64 => 124 | 68 => 69 | 69 => 89 | 80 => 133 | 81 => 60 | 83 => 43 | 104 => 71 | 105 => 118 | 106 => 119 | 111 => 47 | 114 => 109 | 115 => 103 | 116 => 104 | 117 => 105 | 118 => 106 | 119 => 128 | 122 => 102 | 123 => 107 | 124 => 108 | 127 => 125 | 137 => 129 | 138 => 130 | 139 => 131 | 146 => 122 | 151 => 123 | 164 => 152 | 171 => 96 | 172 => 99 | 173 => 100 | 174 => 101 | 211 => 110 | 212 => 111 | 213 => 113 | 222 => 90 | 232 => 126 | 233 => 127 | 238 => 134 | 239 => 135 | 240 => 136 | 241 => 137 | 242 => 138 | 243 => 139 | 244 => 140 | 245 => 141 | 246 => 142 | 247 => 143 | 248 => 144 | 249 => 145 | n => n, fun | 3 => 4 | 4 => 5 | 17 => 0 | 18 => 2 | 19 => 3 | n => n⟩
set_option maxRecDepth 100000 in
theorem Tryd.lays122 : Go.Proofs.Lays.n122 Tryd.prog Tryd.lays122_ren := {
  mixed := by kernel_rfl
  f122 := Tryd.func26.trans (congrArg some (by kernel_rfl))
  f215 := Tryd.func41.trans (congrArg some (by kernel_rfl))
  t3 := Tryd.underlying3
  a3 := Tryd.isAgg3
  z3 := Tryd.sizeOf3
  v3 := Tryd.zeroValue3
  t4 := Tryd.underlying4
  a4 := Tryd.isAgg4
  z4 := Tryd.sizeOf4
  v4 := Tryd.zeroValue4 }
def Tryd.lays161_ren : Go.Shelf.Ren := ⟨fun | 119 => 95 | 137 => 94 | 151 => 85 | 152 => 93 | 161 => 56 | 197 => 84 | 217 => 79 | 224 => 81 | 225 => 80 | 227 => 69 | 228 => 83 | 231 => 68 | 233 => 70 | 235 => 71 | 260 => 92 | 266 => 90 | n => n, fun | 22 => 116 | 23 => 87 | 27 => 51 | 28 => 72 | 31 => 68 | 37 => 67 | 40 => 132 | 41 => 70 | 42 => 83 | 43 => 50 | 46 => 114 | 47 => 115 | 51 => 112 | 52 => 121 | 53 => 97 | 54 => 98 | 55 => 117 | 59 => 73 | 60 => 74 | 63 => 120 | 64 => 124 | 68 => 69 | 69 => 89 | 80 => 133 | 81 => 60 | 83 => 43 | 104 => 71 | 105 => 118 | 106 => 119 | 111 => 47 | 114 => 109 | 115 => 103 | 116 => 104 | 117 => 105 | 118 => 106 | 119 => 128 | 122 => 102 | 123 => 107 | 124 => 108 | 127 => 125 | 137 => 129 | 138 => 130 | 139 => 131 | 146 => 122 | 151 => 123 | 164 => 152 | 171 => 96 | 172 => 99 | 173 => 100 | 174 => 101 | 211 => 110 | 212 => 111 | 213 => 113 | 222 => 90 | 232 => 126 | 233 => 127 | 238 => 134 | 239 => 135 | 240 => 136 | 241 => 137 | 242 => 138 | 243 => 139 | 244 => 140 | 245 => 141 | 246 => 142 | 247 => 143 | 248 => 144 | 249 => 145 | n => n, fun | 3 => 4 | 4 => 5 | 17 => 0 | 18 => 2 | 19 => 3 | n => n⟩
set_option maxRecDepth 100000 in
theorem Tryd.lays161 : Go.Proofs.Lays.n161 Tryd.prog Tryd.lays161_ren := {
  mixed := by kernel_rfl
  f119 := Tryd.func95.trans (congrArg some (by kernel_rfl))
  f137 := Tryd.func94.trans (congrArg some (by kernel_rfl))
  f151 := Tryd.func85.trans (congrArg some (by kernel_rfl))
  f152 := Tryd.func93.trans (congrArg some (by kernel_rfl))
  f161 := Tryd.func56.trans (congrArg some (by kernel_rfl))
  f197 := Tryd.func84.trans (congrArg some (by kernel_rfl))
  f217 := Tryd.func79.trans (congrArg some (by kernel_rfl))
  f224 := Tryd.func81.trans (congrArg some (by kernel_rfl))
  f225 := Tryd.func80.trans (congrArg some (by kernel_rfl))
  f227 := Tryd.func69.trans (congrArg some (by kernel_rfl))
  f228 := Tryd.func83.trans (congrArg some (by kernel_rfl))
  f231 := Tryd.func68.trans (congrArg some (by kernel_rfl))
  f233 := Tryd.func70.trans (congrArg some (by kernel_rfl))
  f235 := Tryd.func71.trans (congrArg some (by kernel_rfl))
  f260 := Tryd.func92.trans (congrArg some (by kernel_rfl))
  f266 := Tryd.func90.trans (congrArg some (by kernel_rfl))
  t0 := Tryd.underlying0
  a0 := Tryd.isAgg0
  z0 := Tryd.sizeOf0
  v0 := Tryd.zeroValue0
  t3 := Tryd.underlying3
  a3 := Tryd.isAgg3
  z3 := Tryd.sizeOf3
  v3 := Tryd.zeroValue3
  t4 := Tryd.underlying4
  a4 := Tryd.isAgg4
  z4 := Tryd.sizeOf4
  v4 := Tryd.zeroValue4
  t5 := Tryd.underlying5
  a5 := Tryd.isAgg5
  z5 := Tryd.sizeOf5
  v5 := Tryd.zeroValue5
  t9 := Tryd.underlying9
  a9 := Tryd.isAgg9
  z9 := Tryd.sizeOf9
  v9 := Tryd.zeroValue9
  t21 := Tryd.underlying21
  a21 := Tryd.isAgg21
  z21 := Tryd.sizeOf21
  v21 := Tryd.zeroValue21
  t46 := Tryd.underlying114
  a46 := Tryd.isAgg114
  z46 := Tryd.sizeOf114
  v46 := Tryd.zeroValue114
  t105 := Tryd.underlying118
  a105 := Tryd.isAgg118
  z105 := Tryd.sizeOf118
  v105 := Tryd.zeroValue118
  t116 := Tryd.underlying104
  a116 := Tryd.isAgg104
  z116 := Tryd.sizeOf104
  t117 := Tryd.underlying105
  a117 := Tryd.isAgg105
  z117 := Tryd.sizeOf105
  v117 := Tryd.zeroValue105
  t119 := Tryd.underlying128
  a119 := Tryd.isAgg128
  z119 := Tryd.sizeOf128
  t124 := Tryd.underlying108
  a124 := Tryd.isAgg108
  z124 := Tryd.sizeOf108
  v124 := Tryd.zeroValue108
  t138 := Tryd.underlying130
  a138 := Tryd.isAgg130
  z138 := Tryd.sizeOf130
  v138 := Tryd.zeroValue130
  t139 := Tryd.underlying131
  a139 := Tryd.isAgg131
  z139 := Tryd.sizeOf131
  v139 := Tryd.zeroValue131
  g3 := by kernel_rfl
  g4 := by kernel_rfl }
def Tryd.lays219_ren : Go.Shelf.Ren := ⟨fun | 217 => 79 | 219 => 67 | 224 => 81 | 225 => 80 | 266 => 90 | 267 => 82 | 314 => 91 | n => n, fun | 22 => 116 | 23 => 87 | 27 => 51 | 28 => 72 | 31 => 68 | 37 => 67 | 40 => 132 | 41 => 70 | 42 => 83 | 43 => 50 | 46 => 114 | 47 => 115 | 51 => 112 | 52 => 121 | 53 => 97 | 54 => 98 | 55 => 117 | 59 => 73 | 60 => 74 | 63 => 120 | 64 => 124 | 68 => 69 | 69 => 89 | 80 => 133 | 81 => 60 | 83 => 43 | 104 => 71 | 105 => 118 | 106 => 119 | 111 => 47 | 114 => 109 | 115 => 103 | 116 => 104 | 117 => 105 | 118 => 106 | 119 => 128 | 122 => 102 | 123 => 107 | 124 => 108 | 127 => 125 | 137 => 129 | 138 => 130 | 139 => 131 | 146 => 122 | 151 => 123 | 164 => 152 | 171 => 96 | 172 => 99 | 173 => 100 | 174 => 101 | 211 => 110 | 212 => 111 | 213 => 113 | 222 => 90 | 232 => 126 | 233 => 127 | 238 => 134 | 239 => 135 | 240 => 136 | 241 => 137 | 242 => 138 | 243 => 139 | 244 => 140 | 245 => 141 | 246 => 142 | 247 => 143 | 248 => 144 | 249 => 145 | n => n, fun | 3 => 4 | 4 => 5 | 17 => 0 | 18 => 2 | 19 => 3 | n => n⟩
set_option maxRecDepth 100000 in
theorem Tryd.lays219 : Go.Proofs.Lays.n219 Tryd.prog Tryd.lays219_ren := {
  mixed := by kernel_rfl
  f217 := Tryd.func79.trans (congrArg some (by kernel_rfl))
  f219 := Tryd.func67.trans (congrArg some (by kernel_rfl))
  f224 := Tryd.func81.trans (congrArg some (by kernel_rfl))
  f225 := Tryd.func80.trans (congrArg some (by kernel_rfl))
  f266 := Tryd.func90.trans (congrArg some (by kernel_rfl))
  f267 := Tryd.func82.trans (congrArg some (by kernel_rfl))
  f314 := Tryd.func91.trans (congrArg some (by kernel_rfl))
  t3 := Tryd.underlying3
  a3 := Tryd.isAgg3
  z3 := Tryd.sizeOf3
  v3 := Tryd.zeroValue3
  t4 := Tryd.underlying4
  a4 := Tryd.isAgg4
  z4 := Tryd.sizeOf4
  v4 := Tryd.zeroValue4
  t5 := Tryd.underlying5
  a5 := Tryd.isAgg5
  z5 := Tryd.sizeOf5
  v5 := Tryd.zeroValue5
  t9 := Tryd.underlying9
  a9 := Tryd.isAgg9
  z9 := Tryd.sizeOf9
  v9 := Tryd.zeroValue9
  t46 := Tryd.underlying114
  a46 := Tryd.isAgg114
  z46 := Tryd.sizeOf114
  v46 := Tryd.zeroValue114
  t51 := Tryd.underlying112
  a51 := Tryd.isAgg112
  z51 := Tryd.sizeOf112
  v51 := Tryd.zeroValue112
  t146 := Tryd.underlying122
  a146 := Tryd.isAgg122
  z146 := Tryd.sizeOf122
  v146 := Tryd.zeroValue122
  g1 := by kernel_rfl }
end Go.Proofs
