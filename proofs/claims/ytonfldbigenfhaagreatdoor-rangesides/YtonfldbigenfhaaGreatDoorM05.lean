import Derived.Shelf.Small.Wraps
import Derived.Shelf.Strings.Trim
import Derived.Shelf.Strings.Search2
import Derived.Test.YtonfldbigenfhaaGreatDoorProg
import Derived.Test.YtonfldbigenfhaaGreatDoorM02
namespace Go.Proofs
open Go.Shelf
def Tryz.lays122_ren:Go.Shelf.Ren:=⟨fun | 122=>75 | 215=>97 | n=>n,fun | 22=>54 | 23=>170 | 27=>118 | 28=>131 | 31=>93 | 37=>120 | 40=>236 | 41=>113 | 42=>140 | 43=>117 | 46=>178 | 47=>177 | 51=>210 | 52=>209 | 53=>196 | 54=>197 | 55=>213 | 59=>154 | 60=>155 | 63=>217 | 64=>228 | 67=>95 | 68=>112 | 69=>163 | 70=>119 | 71=>121 | 72=>122 | 73=>123 | 74=>124 | 75=>125 | 76=>126 | 77=>127 | 80=>128 | 81=>99 | 83=>98 | 84=>172 | 104=>38 | 105=>215 | 106=>216 | 111=>55 | 112=>97 | 114=>214 | 115=>189 | 116=>190 | 117=>191 | 118=>192 | 119=>232 | 122=>188 | 123=>193 | 124=>194 | 127=>160 | 131=>207 | 137=>233 | 138=>234 | 139=>235 | 146=>226 | 151=>227 | 164=>173 | 165=>174 | 166=>175 | 171=>195 | 172=>198 | 173=>199 | 174=>200 | 182=>202 | 183=>203 | 211=>218 | 212=>219 | 213=>220 | 218=>221 | 219=>222 | 220=>223 | 222=>137 | 228=>229 | 229=>230 | 232=>237 | 233=>238 | 238=>239 | 239=>240 | 240=>241 | 241=>242 | 242=>243 | 243=>244 | 244=>245 | 245=>246 | 246=>247 | 247=>248 | 248=>249 | 249=>250 | n=>n,fun | 1=>0 | 3=>2 | 4=>3 | 17=>1 | 18=>4 | 19=>5 | n=>n⟩
set_option maxRecDepth 100000 in
theorem Tryz.lays122:Go.Proofs.Lays.n122 Tryz.prog Tryz.lays122_ren:={
 mixed:=by kernel_rfl
 f122:=Tryz.func75.trans (congrArg some (by kernel_rfl))
 f215:=Tryz.func97.trans (congrArg some (by kernel_rfl))
 t3:=Tryz.underlying3
 a3:=Tryz.isAgg3
 z3:=Tryz.sizeOf3
 v3:=Tryz.zeroValue3
 t4:=Tryz.underlying4
 a4:=Tryz.isAgg4
 z4:=Tryz.sizeOf4
 v4:=Tryz.zeroValue4 }
def Tryz.lays161_ren:Go.Shelf.Ren:=⟨fun | 119=>185 | 137=>184 | 151=>167 | 152=>180 | 161=>115 | 197=>166 | 217=>161 | 224=>163 | 225=>162 | 227=>141 | 228=>165 | 231=>140 | 233=>142 | 235=>143 | 260=>179 | 266=>177 | n=>n,fun | 22=>54 | 23=>170 | 27=>118 | 28=>131 | 31=>93 | 37=>120 | 40=>236 | 41=>113 | 42=>140 | 43=>117 | 46=>178 | 47=>177 | 51=>210 | 52=>209 | 53=>196 | 54=>197 | 55=>213 | 59=>154 | 60=>155 | 63=>217 | 64=>228 | 67=>95 | 68=>112 | 69=>163 | 70=>119 | 71=>121 | 72=>122 | 73=>123 | 74=>124 | 75=>125 | 76=>126 | 77=>127 | 80=>128 | 81=>99 | 83=>98 | 84=>172 | 104=>38 | 105=>215 | 106=>216 | 111=>55 | 112=>97 | 114=>214 | 115=>189 | 116=>190 | 117=>191 | 118=>192 | 119=>232 | 122=>188 | 123=>193 | 124=>194 | 127=>160 | 131=>207 | 137=>233 | 138=>234 | 139=>235 | 146=>226 | 151=>227 | 164=>173 | 165=>174 | 166=>175 | 171=>195 | 172=>198 | 173=>199 | 174=>200 | 182=>202 | 183=>203 | 211=>218 | 212=>219 | 213=>220 | 218=>221 | 219=>222 | 220=>223 | 222=>137 | 228=>229 | 229=>230 | 232=>237 | 233=>238 | 238=>239 | 239=>240 | 240=>241 | 241=>242 | 242=>243 | 243=>244 | 244=>245 | 245=>246 | 246=>247 | 247=>248 | 248=>249 | 249=>250 | n=>n,fun | 1=>0 | 3=>2 | 4=>3 | 17=>1 | 18=>4 | 19=>5 | n=>n⟩
set_option maxRecDepth 100000 in
theorem Tryz.lays161:Go.Proofs.Lays.n161 Tryz.prog Tryz.lays161_ren:={
 mixed:=by kernel_rfl
 f119:=Tryz.func185.trans (congrArg some (by kernel_rfl))
 f137:=Tryz.func184.trans (congrArg some (by kernel_rfl))
 f151:=Tryz.func167.trans (congrArg some (by kernel_rfl))
 f152:=Tryz.func180.trans (congrArg some (by kernel_rfl))
 f161:=Tryz.func115.trans (congrArg some (by kernel_rfl))
 f197:=Tryz.func166.trans (congrArg some (by kernel_rfl))
 f217:=Tryz.func161.trans (congrArg some (by kernel_rfl))
 f224:=Tryz.func163.trans (congrArg some (by kernel_rfl))
 f225:=Tryz.func162.trans (congrArg some (by kernel_rfl))
 f227:=Tryz.func141.trans (congrArg some (by kernel_rfl))
 f228:=Tryz.func165.trans (congrArg some (by kernel_rfl))
 f231:=Tryz.func140.trans (congrArg some (by kernel_rfl))
 f233:=Tryz.func142.trans (congrArg some (by kernel_rfl))
 f235:=Tryz.func143.trans (congrArg some (by kernel_rfl))
 f260:=Tryz.func179.trans (congrArg some (by kernel_rfl))
 f266:=Tryz.func177.trans (congrArg some (by kernel_rfl))
 t0:=Tryz.underlying0
 a0:=Tryz.isAgg0
 z0:=Tryz.sizeOf0
 v0:=Tryz.zeroValue0
 t3:=Tryz.underlying3
 a3:=Tryz.isAgg3
 z3:=Tryz.sizeOf3
 v3:=Tryz.zeroValue3
 t4:=Tryz.underlying4
 a4:=Tryz.isAgg4
 z4:=Tryz.sizeOf4
 v4:=Tryz.zeroValue4
 t5:=Tryz.underlying5
 a5:=Tryz.isAgg5
 z5:=Tryz.sizeOf5
 v5:=Tryz.zeroValue5
 t9:=Tryz.underlying9
 a9:=Tryz.isAgg9
 z9:=Tryz.sizeOf9
 v9:=Tryz.zeroValue9
 t21:=Tryz.underlying21
 a21:=Tryz.isAgg21
 z21:=Tryz.sizeOf21
 v21:=Tryz.zeroValue21
 t46:=Tryz.underlying178
 a46:=Tryz.isAgg178
 z46:=Tryz.sizeOf178
 v46:=Tryz.zeroValue178
 t105:=Tryz.underlying215
 a105:=Tryz.isAgg215
 z105:=Tryz.sizeOf215
 v105:=Tryz.zeroValue215
 t116:=Tryz.underlying190
 a116:=Tryz.isAgg190
 z116:=Tryz.sizeOf190
 t117:=Tryz.underlying191
 a117:=Tryz.isAgg191
 z117:=Tryz.sizeOf191
 v117:=Tryz.zeroValue191
 t119:=Tryz.underlying232
 a119:=Tryz.isAgg232
 z119:=Tryz.sizeOf232
 t124:=Tryz.underlying194
 a124:=Tryz.isAgg194
 z124:=Tryz.sizeOf194
 v124:=Tryz.zeroValue194
 t138:=Tryz.underlying234
 a138:=Tryz.isAgg234
 z138:=Tryz.sizeOf234
 v138:=Tryz.zeroValue234
 t139:=Tryz.underlying235
 a139:=Tryz.isAgg235
 z139:=Tryz.sizeOf235
 v139:=Tryz.zeroValue235
 g3:=by kernel_rfl
 g4:=by kernel_rfl }
def Tryz.lays219_ren:Go.Shelf.Ren:=⟨fun | 217=>161 | 219=>139 | 224=>163 | 225=>162 | 266=>177 | 267=>164 | 314=>178 | n=>n,fun | 22=>54 | 23=>170 | 27=>118 | 28=>131 | 31=>93 | 37=>120 | 40=>236 | 41=>113 | 42=>140 | 43=>117 | 46=>178 | 47=>177 | 51=>210 | 52=>209 | 53=>196 | 54=>197 | 55=>213 | 59=>154 | 60=>155 | 63=>217 | 64=>228 | 67=>95 | 68=>112 | 69=>163 | 70=>119 | 71=>121 | 72=>122 | 73=>123 | 74=>124 | 75=>125 | 76=>126 | 77=>127 | 80=>128 | 81=>99 | 83=>98 | 84=>172 | 104=>38 | 105=>215 | 106=>216 | 111=>55 | 112=>97 | 114=>214 | 115=>189 | 116=>190 | 117=>191 | 118=>192 | 119=>232 | 122=>188 | 123=>193 | 124=>194 | 127=>160 | 131=>207 | 137=>233 | 138=>234 | 139=>235 | 146=>226 | 151=>227 | 164=>173 | 165=>174 | 166=>175 | 171=>195 | 172=>198 | 173=>199 | 174=>200 | 182=>202 | 183=>203 | 211=>218 | 212=>219 | 213=>220 | 218=>221 | 219=>222 | 220=>223 | 222=>137 | 228=>229 | 229=>230 | 232=>237 | 233=>238 | 238=>239 | 239=>240 | 240=>241 | 241=>242 | 242=>243 | 243=>244 | 244=>245 | 245=>246 | 246=>247 | 247=>248 | 248=>249 | 249=>250 | n=>n,fun | 1=>0 | 3=>2 | 4=>3 | 17=>1 | 18=>4 | 19=>5 | n=>n⟩
set_option maxRecDepth 100000 in
theorem Tryz.lays219:Go.Proofs.Lays.n219 Tryz.prog Tryz.lays219_ren:={
 mixed:=by kernel_rfl
 f217:=Tryz.func161.trans (congrArg some (by kernel_rfl))
 f219:=Tryz.func139.trans (congrArg some (by kernel_rfl))
 f224:=Tryz.func163.trans (congrArg some (by kernel_rfl))
 f225:=Tryz.func162.trans (congrArg some (by kernel_rfl))
 f266:=Tryz.func177.trans (congrArg some (by kernel_rfl))
 f267:=Tryz.func164.trans (congrArg some (by kernel_rfl))
 f314:=Tryz.func178.trans (congrArg some (by kernel_rfl))
 t3:=Tryz.underlying3
 a3:=Tryz.isAgg3
 z3:=Tryz.sizeOf3
 v3:=Tryz.zeroValue3
 t4:=Tryz.underlying4
 a4:=Tryz.isAgg4
 z4:=Tryz.sizeOf4
 v4:=Tryz.zeroValue4
 t5:=Tryz.underlying5
 a5:=Tryz.isAgg5
 z5:=Tryz.sizeOf5
 v5:=Tryz.zeroValue5
 t9:=Tryz.underlying9
 a9:=Tryz.isAgg9
 z9:=Tryz.sizeOf9
 v9:=Tryz.zeroValue9
 t46:=Tryz.underlying178
 a46:=Tryz.isAgg178
 z46:=Tryz.sizeOf178
 v46:=Tryz.zeroValue178
 t51:=Tryz.underlying210
 a51:=Tryz.isAgg210
 z51:=Tryz.sizeOf210
 v51:=Tryz.zeroValue210
 t146:=Tryz.underlying226
 a146:=Tryz.isAgg226
 z146:=Tryz.sizeOf226
 v146:=Tryz.zeroValue226
 g1:=by kernel_rfl }
end Go.Proofs
namespace Go.Proofs.YtonfldbigenfhaaGreatDoor
open Go.RowKit
set_option linter.unusedVariables false
theorem cmpInt_any (x y:Int) (w:World):Calls Tryz.prog 75 #[.int .i64 x,.int .i64 y] w fun e w'=>e=.returned (.int .i64 (Lib.compareInt x y))/\w'=w:=Any.cmp_Compare_int Tryz.lays122 x y w
theorem trim_any (s:ByteArray) (w:World):Calls Tryz.prog 115 #[.string s,.string ⟨#[48]⟩] w fun e w'=>e=.returned (.string ⟨(bareT s.data.toList).toArray⟩)/\w'=w:=Any.strings_TrimLeft_one Tryz.lays161 s 48 (by decide) w
theorem index_any (s:ByteArray) (w:World):Calls Tryz.prog 139 #[.string s,.string ⟨#[46]⟩] w fun e w'=>e=.returned (.int .i64 (Lib.indexByte s.data.toList 46))/\w'=w:=Any.stringslite_Index_one Tryz.lays219 s 46 w
theorem less_cmp:∀(a b:List UInt8),(Op.bytesLess a b=true->Lib.compareBytes a b=-1)/\(Op.bytesLess a b=false->(a == b)=false->Lib.compareBytes a b=1)/\((a == b)=true->Lib.compareBytes a b=0)
 | [],[]=>by simp [Op.bytesLess,Lib.compareBytes]
 | [],_ :: _=>by simp [Op.bytesLess,Lib.compareBytes]
 | _ :: _,[]=>by simp [Op.bytesLess,Lib.compareBytes]
 | x :: a,y :: b=>by
  obtain ⟨h1,h2,h3⟩:=less_cmp a b
  unfold Op.bytesLess Lib.compareBytes
  by_cases hlt:x < y
  ·have hne:¬ x=y:=fun e=>by rw [e] at hlt;exact UInt8.lt_irrefl y hlt
   simp [hlt,hne]
  ·by_cases heq:x=y
   ·subst heq
    simp only [hlt,decide_false,Bool.false_or,beq_self_eq_true,Bool.true_and,if_false]
    refine ⟨h1,fun p q=>h2 p (by simpa using q),fun q=>h3 (by simpa using q)⟩
   ·have hgt:y < x:=UInt8.lt_of_le_of_ne (UInt8.not_lt.1 hlt) (Ne.symm heq)
    simp [hlt,heq,hgt]
theorem less_m1 {a b:ByteArray} (h:Op.bytesLess a.toList b.toList=true):Lib.compareBytes a.data.toList b.data.toList=-1:=by
 rw [Lib.toList_data,Lib.toList_data] at h;exact (less_cmp _ _).1 h
theorem less_p1 {a b:ByteArray} (h:Op.bytesLess a.toList b.toList=false) (h':(!a.toList == b.toList)=true):Lib.compareBytes a.data.toList b.data.toList=1:=by
 rw [Lib.toList_data,Lib.toList_data] at h h';exact (less_cmp _ _).2.1 h (by simpa using h')
theorem less_0 {a b:ByteArray} (h':(!a.toList == b.toList)=false):Lib.compareBytes a.data.toList b.data.toList=0:=by
 rw [Lib.toList_data,Lib.toList_data] at h';exact (less_cmp _ _).2.2 (by simpa using h')
set_option maxHeartbeats 400000 in
theorem nanN_any (s:ByteArray) (w:World):Calls Tryz.prog 204 #[.string s] w fun e w'=>e=.returned (.bool false)/\w'=w:=by
 go_enter Tryz.func204,Tryz.ntmps204
 go_wp2
 go_ret
 exact ⟨rfl,rfl⟩
set_option maxHeartbeats 400000 in
theorem cmpN_any (a b:ByteArray) (w:World):Calls Tryz.prog 203 #[.string a,.string b] w fun e w'=>e=.returned (.int .i64 (Lib.compareBytes a.data.toList b.data.toList))/\w'=w:=by
 cases h1:Op.bytesLess a.toList b.toList with
 | true =>
  rw [less_m1 h1]
  go_enter Tryz.func203,Tryz.ntmps203
  go_wp2_with (go_at_call 204;refine (nanN_any _ _).mono ?_;rintro e w' ⟨rfl,rfl⟩)
  go_ret
  exact ⟨rfl,rfl⟩
 | false =>
  cases h2:(!a.toList == b.toList) with
  | true =>
   rw [less_p1 h1 h2]
   go_enter Tryz.func203,Tryz.ntmps203
   go_wp2_with (go_at_call 204;refine (nanN_any _ _).mono ?_;rintro e w' ⟨rfl,rfl⟩)
   go_ret
   exact ⟨rfl,rfl⟩
  | false =>
   rw [less_0 h2]
   go_enter Tryz.func203,Tryz.ntmps203
   go_wp2_with (go_at_call 204;refine (nanN_any _ _).mono ?_;rintro e w' ⟨rfl,rfl⟩)
   go_ret
   exact ⟨rfl,rfl⟩
set_option maxHeartbeats 400000 in
theorem nanW_any (s:ByteArray) (w:World):Calls Tryz.prog 207 #[.string s] w fun e w'=>e=.returned (.bool false)/\w'=w:=by
 go_enter Tryz.func207,Tryz.ntmps207
 go_wp2
 go_ret
 exact ⟨rfl,rfl⟩
set_option maxHeartbeats 400000 in
theorem cmpW_any (a b:ByteArray) (w:World):Calls Tryz.prog 206 #[.string a,.string b] w fun e w'=>e=.returned (.int .i64 (Lib.compareBytes a.data.toList b.data.toList))/\w'=w:=by
 cases h1:Op.bytesLess a.toList b.toList with
 | true =>
  rw [less_m1 h1]
  go_enter Tryz.func206,Tryz.ntmps206
  go_wp2_with (go_at_call 207;refine (nanW_any _ _).mono ?_;rintro e w' ⟨rfl,rfl⟩)
  go_ret
  exact ⟨rfl,rfl⟩
 | false =>
  cases h2:(!a.toList == b.toList) with
  | true =>
   rw [less_p1 h1 h2]
   go_enter Tryz.func206,Tryz.ntmps206
   go_wp2_with (go_at_call 207;refine (nanW_any _ _).mono ?_;rintro e w' ⟨rfl,rfl⟩)
   go_ret
   exact ⟨rfl,rfl⟩
  | false =>
   rw [less_0 h2]
   go_enter Tryz.func206,Tryz.ntmps206
   go_wp2_with (go_at_call 207;refine (nanW_any _ _).mono ?_;rintro e w' ⟨rfl,rfl⟩)
   go_ret
   exact ⟨rfl,rfl⟩
open Go.RowKit
set_option maxHeartbeats 400000 in
theorem cutL_any (s:ByteArray) (w:World) (hs:s.size < 2 ^ 62) :
  Calls Tryz.prog 114 #[.string s,.string ⟨#[46]⟩] w fun e w'=>e=.returned (.tuple #[.string ⟨(cut1 s.data.toList).toArray⟩,.string ⟨(cut2 s.data.toList).toArray⟩,.bool (cut3 s.data.toList)])/\∃n,w'=w.drewN n:=by
 rcases ix_cases s.data.toList with ⟨h1,h2⟩ | ⟨k,h1,h2,h3,h4⟩
 ·have e1:cut1 s.data.toList=s.data.toList:=by unfold cut1;rw [if_pos h1]
  have e2:cut2 s.data.toList=[]:=by unfold cut2;rw [if_pos h1]
  have e3:cut3 s.data.toList=false:=by unfold cut3;rw [h1];rfl
  rw [e1,e2,e3]
  have HX:Hid (Lib.indexByte s.data.toList 46=-1):=h1
  clear h1 h2 e1 e2 e3
  go_enter Tryz.func114,Tryz.ntmps114
  go_wp2_with (go_at_call 139;refine (index_any _ _).mono ?_;rintro e w' ⟨rfl,rfl⟩;rw [HX.out])
  go_ret3
  exact ⟨rfl,0,rfl⟩
 ·have hz:k < s.size:=by simpa using h2
  have e1:cut1 s.data.toList=s.data.toList.take k:=by unfold cut1;rw [if_neg (by omega),h1];simp
  have e2:cut2 s.data.toList=s.data.toList.drop (k+1):=by unfold cut2;rw [if_neg (by omega),h1];simp
  have e3:cut3 s.data.toList=true:=by unfold cut3;simp;omega
  rw [e1,e2,e3]
  have HX:Hid (Lib.indexByte s.data.toList 46=k):=h1
  clear h1 h2 h3 h4 e1 e2 e3
  obtain ⟨X,hX⟩:∃X:ByteArray,X=⟨(s.data.toList.take k).toArray⟩:=⟨_,rfl⟩
  obtain ⟨Y,hY⟩:∃Y:ByteArray,Y=⟨(s.data.toList.drop (k+1)).toArray⟩:=⟨_,rfl⟩
  rw [<-hX,<-hY]
  have s1:∀wx,(Instr.slice 9 (.string s) none (some (.int .i64 (k:Int))) none).run Tryz.prog wx=.ok (.string X) wx:=fun wx=>by rw [hX];exact run_pre s k (by omega) wx
  have s2:∀wx,(Instr.slice 9 (.string s) (some (.int .i64 ((k:Int)+1))) none none).run Tryz.prog wx=.ok (.string Y) wx:=fun wx=>by rw [hY];exact run_suf s (k+1) (by omega) wx
  clear hX hY
  go_enter Tryz.func114,Tryz.ntmps114
  go_wp2_with (go_at_call 139;refine (index_any _ _).mono ?_;rintro e w' ⟨rfl,rfl⟩;rw [HX.out])
  go_quiet (fail)
  go_wp2
  go_ret3
  exact ⟨rfl,_,rfl⟩
set_option maxHeartbeats 400000 in
theorem cut_any (s:ByteArray) (w:World) (hs:s.size < 2 ^ 62) :
  Calls Tryz.prog 98 #[.string s,.string ⟨#[46]⟩] w fun e w'=>e=.returned (.tuple #[.string ⟨(cut1 s.data.toList).toArray⟩,.string ⟨(cut2 s.data.toList).toArray⟩,.bool (cut3 s.data.toList)])/\∃n,w'=w.drewN n:=by
 go_enter Tryz.func98,Tryz.ntmps98
 go_wp2_with (go_at_call 114;refine (cutL_any _ _ hs).mono ?_;rintro e w' ⟨rfl,n,rfl⟩)
 go_ret3
 exact ⟨rfl,n,rfl⟩
open Go.RowKit
def partV (l:List UInt8):Value:=if numT l then .iface 169 (.string ⟨(bareT l).toArray⟩) else .iface 171 (.string ⟨l.toArray⟩)
set_option maxHeartbeats 400000 in
theorem partOf_any (s:ByteArray) (w:World) (hs:s.size < 2 ^ 62) :
  Calls Tryz.prog 99 #[.string s] w fun e w'=>e=.returned (partV s.data.toList)/\w.grownBy w' none:=by
 unfold partV
 cases hn:numT s.data.toList with
 | true =>
  have HN:Hid (numT s.data.toList=true):=hn
  clear hn
  rw [if_pos rfl]
  go_enter Tryz.func99,Tryz.ntmps99
  go_wp2_with (first | (go_at_call 112;refine (isDigits_any _ _ hs).mono ?_;rw [HN.out];rintro e w1 ⟨rfl,hg1⟩) | (go_at_call 115;refine (trim_any _ _).mono ?_;rintro e w' ⟨rfl,rfl⟩))
  go_ret
  exact ⟨rfl,hg1⟩
 | false =>
  have HN:Hid (numT s.data.toList=false):=hn
  clear hn
  rw [if_neg (by simp)]
  go_enter Tryz.func99,Tryz.ntmps99
  go_wp2_with (first | (go_at_call 112;refine (isDigits_any _ _ hs).mono ?_;rw [HN.out];rintro e w1 ⟨rfl,hg1⟩))
  go_ret
  exact ⟨rfl,hg1⟩
theorem taNN (b:ByteArray) (w:World):(Instr.typeAssert (.iface 169 (.string b)) 157 169 true).run Tryz.prog w=.ok (.tuple #[.string b,.bool true]) w:=by kernel_rfl
theorem taWN (b:ByteArray) (w:World):(Instr.typeAssert (.iface 171 (.string b)) 157 169 true).run Tryz.prog w=.ok (.tuple #[.string ⟨#[]⟩,.bool false]) w:=by kernel_rfl
theorem taWW (b:ByteArray) (w:World):(Instr.typeAssert (.iface 171 (.string b)) 157 171 true).run Tryz.prog w=.ok (.tuple #[.string b,.bool true]) w:=by kernel_rfl
theorem taNW (b:ByteArray) (w:World):(Instr.typeAssert (.iface 169 (.string b)) 157 171 true).run Tryz.prog w=.ok (.tuple #[.string ⟨#[]⟩,.bool false]) w:=by kernel_rfl
set_option maxHeartbeats 400000 in
theorem orderNN_eq (a b:ByteArray) (w:World) (h:a.size=b.size):Calls Tryz.prog 202 #[.string a,.iface 169 (.string b)] w fun e w'=>e=.returned (.int .i64 (Lib.compareBytes a.data.toList b.data.toList))/\∃n,w'=w.drewN n:=by
 have ta:=taNN b
 have hd:((a.size:Int) == (b.size:Int))=true:=by simp;omega
 clear h
 go_enter Tryz.func202,Tryz.ntmps202
 go_wp2_with (first | (go_at_call 203;refine (cmpN_any _ _ _).mono ?_;rintro e w' ⟨rfl,rfl⟩))
 go_ret
 exact ⟨rfl,0,rfl⟩
set_option maxHeartbeats 400000 in
theorem orderNN_ne (a b:ByteArray) (w:World) (h:¬ a.size=b.size):Calls Tryz.prog 202 #[.string a,.iface 169 (.string b)] w fun e w'=>e=.returned (.int .i64 (Lib.compareInt a.size b.size))/\∃n,w'=w.drewN n:=by
 have ta:=taNN b
 have hd:((a.size:Int) == (b.size:Int))=false:=by simp;omega
 clear h
 go_enter Tryz.func202,Tryz.ntmps202
 go_wp2_with (first | (go_at_call 75;refine (cmpInt_any _ _ _).mono ?_;rintro e w' ⟨rfl,rfl⟩))
 go_ret
 exact ⟨rfl,0,rfl⟩
set_option maxHeartbeats 400000 in
theorem orderNW (a b:ByteArray) (w:World):Calls Tryz.prog 202 #[.string a,.iface 171 (.string b)] w fun e w'=>e=.returned (.int .i64 (-1))/\∃n,w'=w.drewN n:=by
 have ta:=taWN b
 go_enter Tryz.func202,Tryz.ntmps202
 go_wp2
 go_ret
 exact ⟨rfl,0,rfl⟩
set_option maxHeartbeats 400000 in
theorem orderWN (a b:ByteArray) (w:World):Calls Tryz.prog 205 #[.string a,.iface 169 (.string b)] w fun e w'=>e=.returned (.int .i64 1)/\∃n,w'=w.drewN n:=by
 have ta:=taNW b
 go_enter Tryz.func205,Tryz.ntmps205
 go_wp2
 go_ret
 exact ⟨rfl,0,rfl⟩
set_option maxHeartbeats 400000 in
theorem orderWW (a b:ByteArray) (w:World):Calls Tryz.prog 205 #[.string a,.iface 171 (.string b)] w fun e w'=>e=.returned (.int .i64 (Lib.compareBytes a.data.toList b.data.toList))/\∃n,w'=w.drewN n:=by
 have ta:=taWW b
 go_enter Tryz.func205,Tryz.ntmps205
 go_wp2_with (first | (go_at_call 206;refine (cmpW_any _ _ _).mono ?_;rintro e w' ⟨rfl,rfl⟩))
 go_ret
 exact ⟨rfl,0,rfl⟩
open Go.RowKit
theorem emp_t {a:ByteArray} (h:a.size=0):a.toList.isEmpty=true:=by
 rw [Lib.toList_data,List.isEmpty_iff];exact List.length_eq_zero_iff.1 (by simpa using h)
theorem emp_f {a:ByteArray} (h:a.size ≠ 0):a.toList.isEmpty=false:=by
 rw [Lib.toList_data]
 cases hl:a.data.toList with
 | nil=>exact absurd (show a.size=0 from by show a.data.size=0;rw [<-Array.length_toList,hl];rfl) h
 | cons c l=>rfl
set_option maxHeartbeats 400000 in
theorem pre_e (a b:ByteArray) (w:World) (h:a.size=0\/b.size=0) :
  Calls Tryz.prog 76 #[.string a,.string b] w fun e w'=>e=.returned (.int .i64 (preC a.data.toList b.data.toList))/\w.grownBy w' none:=by
 have HE:Hid (preC a.data.toList b.data.toList=Lib.compareInt b.size a.size):=by
  show preC a.data.toList b.data.toList=Lib.compareInt b.size a.size
  rw [pre_empty]
  ·simp
  ·rcases h with h | h
   ·left;exact List.length_eq_zero_iff.1 (by simpa using h)
   ·right;exact List.length_eq_zero_iff.1 (by simpa using h)
 rw [HE.out]
 by_cases ha:a.size=0
 ·have c1:=emp_t ha
  have HA:Hid (a.size=0):=ha
  clear h ha
  go_enter Tryz.func76,Tryz.ntmps76
  go_wp2_with (first | (go_at_call 75;refine (cmpInt_any _ _ _).mono ?_;rintro e w' ⟨rfl,rfl⟩))
  all_goals (go_ret;exact ⟨rfl,gb_refl _ _⟩)
 ·have c1:=emp_f ha
  have c2:=emp_t (h.resolve_left ha)
  clear h ha
  go_enter Tryz.func76,Tryz.ntmps76
  go_wp2_with (first | (go_at_call 75;refine (cmpInt_any _ _ _).mono ?_;rintro e w' ⟨rfl,rfl⟩))
  all_goals (go_ret;exact ⟨rfl,gb_refl _ _⟩)
def sizeV:Value->Nat
 | .string s=>s.size
 | _=>0
theorem part_order (P Q:List UInt8) :
  (∃X1 T2 X2,partV P=.iface 169 (.string X1)/\partV Q=.iface T2 (.string X2)/\∀w,Calls Tryz.prog 202 #[.string X1,.iface T2 (.string X2)] w fun e w'=>e=.returned (.int .i64 (partC P Q))/\∃n,w'=w.drewN n) ∨
  (∃X1 T2 X2,partV P=.iface 171 (.string X1)/\partV Q=.iface T2 (.string X2)/\∀w,Calls Tryz.prog 205 #[.string X1,.iface T2 (.string X2)] w fun e w'=>e=.returned (.int .i64 (partC P Q))/\∃n,w'=w.drewN n):=by
 cases hp:numT P with
 | true =>
  left
  cases hq:numT Q with
  | true =>
   refine ⟨⟨(bareT P).toArray⟩,_,⟨(bareT Q).toArray⟩,by unfold partV;rw [hp];rfl,by unfold partV;rw [hq];rfl,fun w=>?_⟩
   rw [partC_nn hp hq]
   have s1:(⟨(bareT P).toArray⟩:ByteArray).size=(bareT P).length:=by show (bareT P).toArray.size=_;simp
   have s2:(⟨(bareT Q).toArray⟩:ByteArray).size=(bareT Q).length:=by show (bareT Q).toArray.size=_;simp
   by_cases h:((bareT P).length:Int)=(bareT Q).length
   ·rw [if_pos h];exact orderNN_eq _ _ w (by rw [s1,s2];omega)
   ·rw [if_neg h]
    have:=orderNN_ne ⟨(bareT P).toArray⟩ ⟨(bareT Q).toArray⟩ w (by rw [s1,s2];omega)
    rw [s1,s2] at this;exact this
  | false =>
   refine ⟨⟨(bareT P).toArray⟩,_,⟨Q.toArray⟩,by unfold partV;rw [hp];rfl,by unfold partV;rw [hq];rfl,fun w=>?_⟩
   rw [partC_nw hp hq];exact orderNW _ _ w
 | false =>
  right
  cases hq:numT Q with
  | true =>
   refine ⟨⟨P.toArray⟩,_,⟨(bareT Q).toArray⟩,by unfold partV;rw [hp];rfl,by unfold partV;rw [hq];rfl,fun w=>?_⟩
   rw [partC_wn hp hq];exact orderWN _ _ w
  | false =>
   refine ⟨⟨P.toArray⟩,_,⟨Q.toArray⟩,by unfold partV;rw [hp];rfl,by unfold partV;rw [hq];rfl,fun w=>?_⟩
   rw [partC_ww hp hq];exact orderWW _ _ w
set_option maxHeartbeats 4000000 in
set_option maxRecDepth 100000 in
theorem pre_f (a b:ByteArray) (w:World) (ha:a.size ≠ 0) (hb:b.size ≠ 0) (hs:a.size < 2 ^ 62) (hs':b.size < 2 ^ 62) :
  Calls Tryz.prog 76 #[.string a,.string b] w fun e w'=>e=.returned (.int .i64 (listC partC (splitD a.data.toList) (splitD b.data.toList)))/\w.grownBy w' none:=by
 have c1:=emp_f ha
 have c2:=emp_f hb
 obtain ⟨R,hR⟩:∃R,R=listC partC (splitD a.data.toList) (splitD b.data.toList):=⟨_,rfl⟩
 rw [<-hR]
 have HR:Hid (R=listC partC (splitD a.data.toList) (splitD b.data.toList)):=hR
 clear hR ha hb
 go_enter Tryz.func76,Tryz.ntmps76
 go_wp2_with (fail)
 go_loopw [0,1] (fun va vb wr=>∃x y:ByteArray,va=.string x/\vb=.string y/\x.size < 2 ^ 62/\y.size < 2 ^ 62/\R=listC partC (splitD x.data.toList) (splitD y.data.toList)/\w.grownBy wr none) (fun va _ _=>sizeV va)
 case atStart=>exact ⟨a,b,rfl,rfl,hs,hs',HR.out,gb_refl _ _⟩
 case round =>
  obtain ⟨x,y,rfl,rfl,hx,hy,hr,hgb⟩:=hrel
  have HX:Hid (R=listC partC (splitD x.data.toList) (splitD y.data.toList)):=hr
  have HG:Hid (w.grownBy wr none):=hgb
  have HB:Hid (x.size < 2 ^ 62/\y.size < 2 ^ 62):=⟨hx,hy⟩
  obtain ⟨P1,hP1⟩:∃P1,P1=cut1 x.data.toList:=⟨_,rfl⟩
  obtain ⟨P2,hP2⟩:∃P2,P2=cut2 x.data.toList:=⟨_,rfl⟩
  obtain ⟨P3,hP3⟩:∃P3,P3=cut3 x.data.toList:=⟨_,rfl⟩
  obtain ⟨Q1,hQ1⟩:∃Q1,Q1=cut1 y.data.toList:=⟨_,rfl⟩
  obtain ⟨Q2,hQ2⟩:∃Q2,Q2=cut2 y.data.toList:=⟨_,rfl⟩
  obtain ⟨Q3,hQ3⟩:∃Q3,Q3=cut3 y.data.toList:=⟨_,rfl⟩
  have HP:Hid (P1=cut1 x.data.toList/\P2=cut2 x.data.toList/\P3=cut3 x.data.toList):=⟨hP1,hP2,hP3⟩
  have HQ:Hid (Q1=cut1 y.data.toList/\Q2=cut2 y.data.toList/\Q3=cut3 y.data.toList):=⟨hQ1,hQ2,hQ3⟩
  have C1:=fun w=>cut_any x w hx
  rw [<-hP1,<-hP2,<-hP3] at C1
  have C2:=fun w=>cut_any y w hy
  rw [<-hQ1,<-hQ2,<-hQ3] at C2
  have p1:(⟨P1.toArray⟩:ByteArray).size < 2 ^ 62:=by
   have:=cut1_len x.data.toList
   rw [<-hP1] at this;show P1.toArray.size < _;simp at this ⊢;omega
  have q1:(⟨Q1.toArray⟩:ByteArray).size < 2 ^ 62:=by
   have:=cut1_len y.data.toList
   rw [<-hQ1] at this;show Q1.toArray.size < _;simp at this ⊢;omega
  have D1:Hid (∀w,Calls Tryz.prog 99 #[.string ⟨P1.toArray⟩] w fun e w'=>e=.returned (partV P1)/\w.grownBy w' none):=fun w=>partOf_any ⟨P1.toArray⟩ w p1
  have D2:Hid (∀w,Calls Tryz.prog 99 #[.string ⟨Q1.toArray⟩] w fun e w'=>e=.returned (partV Q1)/\w.grownBy w' none):=fun w=>partOf_any ⟨Q1.toArray⟩ w q1
  have HC1:Hid (∀w,Calls Tryz.prog 98 #[.string x,.string ⟨#[46]⟩] w fun e w'=>e=.returned (.tuple #[.string ⟨P1.toArray⟩,.string ⟨P2.toArray⟩,.bool P3])/\∃n,w'=w.drewN n):=C1
  have HC2:Hid (∀w,Calls Tryz.prog 98 #[.string y,.string ⟨#[46]⟩] w fun e w'=>e=.returned (.tuple #[.string ⟨Q1.toArray⟩,.string ⟨Q2.toArray⟩,.bool Q3])/\∃n,w'=w.drewN n):=C2
  clear hP1 hP2 hP3 hQ1 hQ2 hQ3 C1 C2 p1 q1 hr hgb hx hy
  obtain ⟨O,hO⟩:∃O,O=partC P1 Q1:=⟨_,rfl⟩
  have HS:Hid (R=if O=0 then (if P3=true then (if Q3=true then listC partC (splitD P2) (splitD Q2) else 1) else (if Q3=true then -1 else 0)) else O):=by
   show R=_
   have h1:=HP.out
   have h2:=HQ.out
   rw [HX.out,list_step,<-h1.1,<-h1.2.1,<-h1.2.2,<-h2.1,<-h2.2.1,<-h2.2.2,<-hO]
  have HL:Hid ((P3=true->P2.length < x.size)/\P2.length < 2 ^ 62/\Q2.length < 2 ^ 62):=by
   have h1:=HP.out
   have h2:=HQ.out
   have h3:=HB.out
   have z1:x.data.toList.length=x.size:=by simp
   have z2:y.data.toList.length=y.size:=by simp
   have l1:=cut2_len x.data.toList
   have l2:=cut2_len y.data.toList
   rw [<-h1.2.1] at l1
   rw [<-h2.2.1] at l2
   refine ⟨fun h=>?_,by omega,by omega⟩
   have:=(cut_yes (h1.2.2 ▸ h:cut3 x.data.toList=true)).2
   rw [<-h1.2.1] at this
   omega
  rcases part_order P1 Q1 with ⟨X1,T2,X2,hv1,hv2,ho⟩ | ⟨X1,T2,X2,hv1,hv2,ho⟩
  ·rw [<-hO] at ho
   rw [hv1] at D1
   rw [hv2] at D2
   have H0:Hid (∀w,Calls Tryz.prog 202 #[.string X1,.iface T2 (.string X2)] w fun e w'=>e=.returned (.int .i64 O)/\∃n,w'=w.drewN n):=ho
   clear ho hv1 hv2 hO
   have na:∀w,(nilAhead 357 169 (.string X1) "pantry/ver.order").run Tryz.prog w=.ok (some false) w:=fun w=>by kernel_rfl
   have hm:∀w,(method 357 169 (.string X1) "pantry/ver.order").run Tryz.prog w=.ok (202,.string X1) w:=fun w=>by kernel_rfl
   go_wp2_with (go_at_call 98;refine (HC1.out _).mono ?_)
   rintro e w1 ⟨rfl,n1,rfl⟩
   go_wp2_with (go_at_call 98;refine (HC2.out _).mono ?_)
   rintro e w1 ⟨rfl,n2,rfl⟩
   go_wp2
   go_region_with (first | (go_at_call_of 99 (Value.string ⟨P1.toArray⟩);refine (D1.out _).mono ?_;rintro e w3 ⟨rfl,hg3⟩) | (go_at_call_of 99 (Value.string ⟨Q1.toArray⟩);refine (D2.out _).mono ?_;rintro e w4 ⟨rfl,hg4⟩) | (go_at_call 202;refine (H0.out _).mono ?_;rintro e w5 ⟨rfl,n5,rfl⟩))
   all_goals
    have GB:Hid (w.grownBy w4 none):=gb_trans (gb_trans (gb_drew HG.out _) hg3) hg4
    clear hg3 hg4 na hm
    cases hz:(O == 0) with
    | false =>
     have HZ:Hid (R=O):=by
      show R=O
      rw [HS.out,if_neg (by simpa using hz)]
     go_wp2
     go_ret
     exact ⟨ret_int HZ.out.symm,gb_drew GB.out _⟩
    | true =>
     have HZ:Hid (O=0):=by
      show O=0
      simpa using hz
     cases P3 with
     | true =>
      cases Q3 with
      | true =>
       go_wp2
       go_roundw
       case rel =>
        refine ⟨⟨P2.toArray⟩,⟨Q2.toArray⟩,rfl,rfl,?_,?_,?_,gb_drew GB.out _⟩
        ·show P2.toArray.size < _
         have:=HL.out.2.1;simpa using this
        ·show Q2.toArray.size < _
         have:=HL.out.2.2;simpa using this
        ·rw [HS.out,if_pos HZ.out];rfl
       case measure =>
        have:=HL.out.1 rfl
        show P2.toArray.size < x.size
        simpa using this
      | false =>
       have HE:Hid (R=1):=by show R=1;rw [HS.out,if_pos HZ.out];rfl
       go_wp2
       go_ret
       exact ⟨ret_int HE.out.symm,gb_drew GB.out _⟩
     | false =>
      cases Q3 with
      | true =>
       have HE:Hid (R=-1):=by show R=-1;rw [HS.out,if_pos HZ.out];rfl
       go_wp2
       go_ret
       exact ⟨ret_int HE.out.symm,gb_drew GB.out _⟩
      | false =>
       have HE:Hid (R=0):=by show R=0;rw [HS.out,if_pos HZ.out];rfl
       go_wp2
       go_ret
       exact ⟨ret_int HE.out.symm,gb_drew GB.out _⟩
  ·rw [<-hO] at ho
   rw [hv1] at D1
   rw [hv2] at D2
   have H0:Hid (∀w,Calls Tryz.prog 205 #[.string X1,.iface T2 (.string X2)] w fun e w'=>e=.returned (.int .i64 O)/\∃n,w'=w.drewN n):=ho
   clear ho hv1 hv2 hO
   have na:∀w,(nilAhead 357 171 (.string X1) "pantry/ver.order").run Tryz.prog w=.ok (some false) w:=fun w=>by kernel_rfl
   have hm:∀w,(method 357 171 (.string X1) "pantry/ver.order").run Tryz.prog w=.ok (205,.string X1) w:=fun w=>by kernel_rfl
   go_wp2_with (go_at_call 98;refine (HC1.out _).mono ?_)
   rintro e w1 ⟨rfl,n1,rfl⟩
   go_wp2_with (go_at_call 98;refine (HC2.out _).mono ?_)
   rintro e w1 ⟨rfl,n2,rfl⟩
   go_wp2
   go_region_with (first | (go_at_call_of 99 (Value.string ⟨P1.toArray⟩);refine (D1.out _).mono ?_;rintro e w3 ⟨rfl,hg3⟩) | (go_at_call_of 99 (Value.string ⟨Q1.toArray⟩);refine (D2.out _).mono ?_;rintro e w4 ⟨rfl,hg4⟩) | (go_at_call 205;refine (H0.out _).mono ?_;rintro e w5 ⟨rfl,n5,rfl⟩))
   all_goals
    have GB:Hid (w.grownBy w4 none):=gb_trans (gb_trans (gb_drew HG.out _) hg3) hg4
    clear hg3 hg4 na hm
    cases hz:(O == 0) with
    | false =>
     have HZ:Hid (R=O):=by
      show R=O
      rw [HS.out,if_neg (by simpa using hz)]
     go_wp2
     go_ret
     exact ⟨ret_int HZ.out.symm,gb_drew GB.out _⟩
    | true =>
     have HZ:Hid (O=0):=by
      show O=0
      simpa using hz
     cases P3 with
     | true =>
      cases Q3 with
      | true =>
       go_wp2
       go_roundw
       case rel =>
        refine ⟨⟨P2.toArray⟩,⟨Q2.toArray⟩,rfl,rfl,?_,?_,?_,gb_drew GB.out _⟩
        ·show P2.toArray.size < _
         have:=HL.out.2.1;simpa using this
        ·show Q2.toArray.size < _
         have:=HL.out.2.2;simpa using this
        ·rw [HS.out,if_pos HZ.out];rfl
       case measure =>
        have:=HL.out.1 rfl
        show P2.toArray.size < x.size
        simpa using this
      | false =>
       have HE:Hid (R=1):=by show R=1;rw [HS.out,if_pos HZ.out];rfl
       go_wp2
       go_ret
       exact ⟨ret_int HE.out.symm,gb_drew GB.out _⟩
     | false =>
      cases Q3 with
      | true =>
       have HE:Hid (R=-1):=by show R=-1;rw [HS.out,if_pos HZ.out];rfl
       go_wp2
       go_ret
       exact ⟨ret_int HE.out.symm,gb_drew GB.out _⟩
      | false =>
       have HE:Hid (R=0):=by show R=0;rw [HS.out,if_pos HZ.out];rfl
       go_wp2
       go_ret
       exact ⟨ret_int HE.out.symm,gb_drew GB.out _⟩
theorem pre_any (a b:ByteArray) (w:World) (hs:a.size < 2 ^ 62) (hs':b.size < 2 ^ 62) :
  Calls Tryz.prog 76 #[.string a,.string b] w fun e w'=>e=.returned (.int .i64 (preC a.data.toList b.data.toList))/\w.grownBy w' none:=by
 by_cases h:a.size=0\/b.size=0
 ·exact pre_e a b w h
 ·have ha:a.size ≠ 0:=fun e=>h (Or.inl e)
  have hb:b.size ≠ 0:=fun e=>h (Or.inr e)
  rw [pre_full a.data.toList b.data.toList (fun e=>ha (by show a.data.size=0;rw [<-Array.length_toList,e];rfl)) (fun e=>hb (by show b.data.size=0;rw [<-Array.length_toList,e];rfl))]
  exact pre_f a b w ha hb hs hs'
end Go.Proofs.YtonfldbigenfhaaGreatDoor
