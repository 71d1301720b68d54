import Derived.Shelf.Strings.Builder1
import Derived.Shelf.Strconv.Itoa3
import Derived.Test.YtpeghomkaphdcaaGreatDoorProg
import Derived.Test.YtpeghomkaphdcaaGreatDoorM17
import Derived.Shelf.Strings.BuilderK
namespace Go.Proofs
open Go.Shelf
def Tryz.lays166_ren:Go.Shelf.Ren:=⟨fun | 166=>26 | 240=>47 | 276=>69 | n=>n,fun | 22=>130 | 23=>190 | 24=>110 | 25=>111 | 27=>79 | 28=>165 | 31=>40 | 32=>112 | 33=>90 | 37=>53 | 40=>215 | 41=>95 | 42=>153 | 43=>109 | 46=>102 | 47=>101 | 48=>98 | 51=>134 | 52=>133 | 53=>136 | 54=>135 | 55=>204 | 59=>167 | 60=>168 | 63=>207 | 64=>210 | 67=>94 | 68=>143 | 69=>67 | 70=>52 | 71=>54 | 72=>55 | 73=>116 | 74=>63 | 75=>64 | 76=>65 | 77=>66 | 80=>68 | 81=>120 | 83=>81 | 84=>115 | 100=>84 | 101=>49 | 102=>70 | 103=>39 | 104=>83 | 105=>205 | 106=>206 | 111=>166 | 114=>175 | 115=>196 | 116=>197 | 117=>198 | 118=>199 | 119=>211 | 122=>195 | 123=>200 | 124=>201 | 127=>85 | 131=>72 | 135=>100 | 137=>212 | 138=>213 | 139=>214 | 146=>208 | 151=>209 | 164=>103 | 165=>104 | 166=>179 | 171=>149 | 172=>150 | 173=>151 | 174=>152 | 182=>126 | 183=>127 | 188=>125 | 189=>128 | 190=>129 | 191=>131 | 192=>132 | 211=>176 | 212=>177 | 213=>178 | 218=>154 | 219=>155 | 220=>156 | 222=>158 | 224=>157 | 225=>159 | 228=>180 | 229=>181 | 231=>182 | 232=>202 | 233=>203 | 238=>216 | 239=>217 | 240=>218 | 241=>219 | 242=>220 | 243=>221 | 244=>222 | 245=>223 | 246=>224 | 247=>225 | 248=>226 | 249=>227 | n=>n,fun | 3=>4 | 4=>5 | 17=>0 | 18=>2 | 19=>3 | n=>n⟩
set_option maxRecDepth 100000 in
theorem Tryz.lays166:Go.Proofs.Lays.n166 Tryz.prog Tryz.lays166_ren:={
 mixed:=by kernel_rfl
 f166:=Tryz.func26.trans (congrArg some (by kernel_rfl))
 f240:=Tryz.func47.trans (congrArg some (by kernel_rfl))
 f276:=Tryz.func69.trans (congrArg some (by kernel_rfl))
 t0:=Tryz.underlying0
 a0:=Tryz.isAgg0
 z0:=Tryz.sizeOf0
 v0:=Tryz.zeroValue0
 t3:=Tryz.underlying3
 a3:=Tryz.isAgg3
 z3:=Tryz.sizeOf3
 v3:=Tryz.zeroValue3
 t4:=Tryz.underlying4
 a4:=Tryz.isAgg4
 z4:=Tryz.sizeOf4
 v4:=Tryz.zeroValue4
 t9:=Tryz.underlying9
 a9:=Tryz.isAgg9
 z9:=Tryz.sizeOf9
 v9:=Tryz.zeroValue9
 t20:=Tryz.underlying20
 a20:=Tryz.isAgg20
 z20:=Tryz.sizeOf20
 v20:=Tryz.zeroValue20
 t37:=Tryz.underlying53
 a37:=Tryz.isAgg53
 z37:=Tryz.sizeOf53
 v37:=Tryz.zeroValue53
 t70:=Tryz.underlying52
 a70:=Tryz.isAgg52
 z70:=Tryz.sizeOf52
 v70:=Tryz.zeroValue52
 t72:=Tryz.underlying55
 a72:=Tryz.isAgg55
 z72:=Tryz.sizeOf55
 v72:=Tryz.zeroValue55
 t75:=Tryz.underlying64
 a75:=Tryz.isAgg64
 z75:=Tryz.sizeOf64
 v75:=Tryz.zeroValue64
 t164:=Tryz.underlying103
 a164:=Tryz.isAgg103
 z164:=Tryz.sizeOf103
 v164:=Tryz.zeroValue103 }
def Tryz.lays169_ren:Go.Shelf.Ren:=⟨fun | 169=>28 | n=>n,fun | 22=>130 | 23=>190 | 24=>110 | 25=>111 | 27=>79 | 28=>165 | 31=>40 | 32=>112 | 33=>90 | 37=>53 | 40=>215 | 41=>95 | 42=>153 | 43=>109 | 46=>102 | 47=>101 | 48=>98 | 51=>134 | 52=>133 | 53=>136 | 54=>135 | 55=>204 | 59=>167 | 60=>168 | 63=>207 | 64=>210 | 67=>94 | 68=>143 | 69=>67 | 70=>52 | 71=>54 | 72=>55 | 73=>116 | 74=>63 | 75=>64 | 76=>65 | 77=>66 | 80=>68 | 81=>120 | 83=>81 | 84=>115 | 100=>84 | 101=>49 | 102=>70 | 103=>39 | 104=>83 | 105=>205 | 106=>206 | 111=>166 | 114=>175 | 115=>196 | 116=>197 | 117=>198 | 118=>199 | 119=>211 | 122=>195 | 123=>200 | 124=>201 | 127=>85 | 131=>72 | 135=>100 | 137=>212 | 138=>213 | 139=>214 | 146=>208 | 151=>209 | 164=>103 | 165=>104 | 166=>179 | 171=>149 | 172=>150 | 173=>151 | 174=>152 | 182=>126 | 183=>127 | 188=>125 | 189=>128 | 190=>129 | 191=>131 | 192=>132 | 211=>176 | 212=>177 | 213=>178 | 218=>154 | 219=>155 | 220=>156 | 222=>158 | 224=>157 | 225=>159 | 228=>180 | 229=>181 | 231=>182 | 232=>202 | 233=>203 | 238=>216 | 239=>217 | 240=>218 | 241=>219 | 242=>220 | 243=>221 | 244=>222 | 245=>223 | 246=>224 | 247=>225 | 248=>226 | 249=>227 | n=>n,fun | 3=>4 | 4=>5 | 17=>0 | 18=>2 | 19=>3 | n=>n⟩
set_option maxRecDepth 100000 in
theorem Tryz.lays169:Go.Proofs.Lays.n169 Tryz.prog Tryz.lays169_ren:={
 mixed:=by kernel_rfl
 f169:=Tryz.func28.trans (congrArg some (by kernel_rfl))
 t0:=Tryz.underlying0
 a0:=Tryz.isAgg0
 z0:=Tryz.sizeOf0
 v0:=Tryz.zeroValue0
 t3:=Tryz.underlying3
 a3:=Tryz.isAgg3
 z3:=Tryz.sizeOf3
 v3:=Tryz.zeroValue3
 t9:=Tryz.underlying9
 a9:=Tryz.isAgg9
 z9:=Tryz.sizeOf9
 v9:=Tryz.zeroValue9
 t37:=Tryz.underlying53
 a37:=Tryz.isAgg53
 z37:=Tryz.sizeOf53
 v37:=Tryz.zeroValue53
 t70:=Tryz.underlying52
 a70:=Tryz.isAgg52
 z70:=Tryz.sizeOf52
 v70:=Tryz.zeroValue52
 t72:=Tryz.underlying55
 a72:=Tryz.isAgg55
 z72:=Tryz.sizeOf55
 v72:=Tryz.zeroValue55
 t127:=Tryz.underlying85
 a127:=Tryz.isAgg85
 z127:=Tryz.sizeOf85
 v127:=Tryz.zeroValue85 }
def Tryz.lays171_ren:Go.Shelf.Ren:=⟨fun | 129=>98 | 171=>38 | 243=>59 | 246=>81 | 283=>115 | 284=>116 | 285=>117 | 286=>118 | 317=>139 | 318=>140 | 319=>141 | 320=>142 | 337=>153 | 338=>154 | n=>n,fun | 22=>130 | 23=>190 | 24=>110 | 25=>111 | 27=>79 | 28=>165 | 31=>40 | 32=>112 | 33=>90 | 37=>53 | 40=>215 | 41=>95 | 42=>153 | 43=>109 | 46=>102 | 47=>101 | 48=>98 | 51=>134 | 52=>133 | 53=>136 | 54=>135 | 55=>204 | 59=>167 | 60=>168 | 63=>207 | 64=>210 | 67=>94 | 68=>143 | 69=>67 | 70=>52 | 71=>54 | 72=>55 | 73=>116 | 74=>63 | 75=>64 | 76=>65 | 77=>66 | 80=>68 | 81=>120 | 83=>81 | 84=>115 | 100=>84 | 101=>49 | 102=>70 | 103=>39 | 104=>83 | 105=>205 | 106=>206 | 111=>166 | 114=>175 | 115=>196 | 116=>197 | 117=>198 | 118=>199 | 119=>211 | 122=>195 | 123=>200 | 124=>201 | 127=>85 | 131=>72 | 135=>100 | 137=>212 | 138=>213 | 139=>214 | 146=>208 | 151=>209 | 164=>103 | 165=>104 | 166=>179 | 171=>149 | 172=>150 | 173=>151 | 174=>152 | 182=>126 | 183=>127 | 188=>125 | 189=>128 | 190=>129 | 191=>131 | 192=>132 | 211=>176 | 212=>177 | 213=>178 | 218=>154 | 219=>155 | 220=>156 | 222=>158 | 224=>157 | 225=>159 | 228=>180 | 229=>181 | 231=>182 | 232=>202 | 233=>203 | 238=>216 | 239=>217 | 240=>218 | 241=>219 | 242=>220 | 243=>221 | 244=>222 | 245=>223 | 246=>224 | 247=>225 | 248=>226 | 249=>227 | n=>n,fun | 3=>4 | 4=>5 | 17=>0 | 18=>2 | 19=>3 | n=>n⟩
set_option maxRecDepth 100000 in
theorem Tryz.lays171:Go.Proofs.Lays.n171 Tryz.prog Tryz.lays171_ren:={
 mixed:=by kernel_rfl
 f129:=Tryz.func98.trans (congrArg some (by kernel_rfl))
 f171:=Tryz.func38.trans (congrArg some (by kernel_rfl))
 f243:=Tryz.func59.trans (congrArg some (by kernel_rfl))
 f246:=Tryz.func81.trans (congrArg some (by kernel_rfl))
 f283:=Tryz.func115.trans (congrArg some (by kernel_rfl))
 f284:=Tryz.func116.trans (congrArg some (by kernel_rfl))
 f285:=Tryz.func117.trans (congrArg some (by kernel_rfl))
 f286:=Tryz.func118.trans (congrArg some (by kernel_rfl))
 f317:=Tryz.func139.trans (congrArg some (by kernel_rfl))
 f318:=Tryz.func140.trans (congrArg some (by kernel_rfl))
 f319:=Tryz.func141.trans (congrArg some (by kernel_rfl))
 f320:=Tryz.func142.trans (congrArg some (by kernel_rfl))
 f337:=Tryz.func153.trans (congrArg some (by kernel_rfl))
 f338:=Tryz.func154.trans (congrArg some (by kernel_rfl))
 t0:=Tryz.underlying0
 a0:=Tryz.isAgg0
 z0:=Tryz.sizeOf0
 v0:=Tryz.zeroValue0
 t2:=Tryz.underlying2
 a2:=Tryz.isAgg2
 z2:=Tryz.sizeOf2
 v2:=Tryz.zeroValue2
 t3:=Tryz.underlying3
 a3:=Tryz.isAgg3
 z3:=Tryz.sizeOf3
 v3:=Tryz.zeroValue3
 t4:=Tryz.underlying4
 a4:=Tryz.isAgg4
 z4:=Tryz.sizeOf4
 v4:=Tryz.zeroValue4
 t5:=Tryz.underlying5
 a5:=Tryz.isAgg5
 z5:=Tryz.sizeOf5
 v5:=Tryz.zeroValue5
 t9:=Tryz.underlying9
 a9:=Tryz.isAgg9
 z9:=Tryz.sizeOf9
 v9:=Tryz.zeroValue9
 t20:=Tryz.underlying20
 a20:=Tryz.isAgg20
 z20:=Tryz.sizeOf20
 v20:=Tryz.zeroValue20
 t37:=Tryz.underlying53
 a37:=Tryz.isAgg53
 z37:=Tryz.sizeOf53
 v37:=Tryz.zeroValue53
 t46:=Tryz.underlying102
 a46:=Tryz.isAgg102
 z46:=Tryz.sizeOf102
 v46:=Tryz.zeroValue102
 t51:=Tryz.underlying134
 a51:=Tryz.isAgg134
 z51:=Tryz.sizeOf134
 v51:=Tryz.zeroValue134
 t53:=Tryz.underlying136
 a53:=Tryz.isAgg136
 z53:=Tryz.sizeOf136
 v53:=Tryz.zeroValue136
 t171:=Tryz.underlying149
 a171:=Tryz.isAgg149
 z171:=Tryz.sizeOf149
 v171:=Tryz.zeroValue149
 t173:=Tryz.underlying151
 a173:=Tryz.isAgg151
 z173:=Tryz.sizeOf151
 v173:=Tryz.zeroValue151
 t212:=Tryz.underlying177
 a212:=Tryz.isAgg177
 z212:=Tryz.sizeOf177
 v212:=Tryz.zeroValue177
 t213:=Tryz.underlying178
 a213:=Tryz.isAgg178
 z213:=Tryz.sizeOf178
 t232:=Tryz.underlying202
 a232:=Tryz.isAgg202
 z232:=Tryz.sizeOf202
 v232:=Tryz.zeroValue202
 t233:=Tryz.underlying203
 a233:=Tryz.isAgg203
 z233:=Tryz.sizeOf203
 v233:=Tryz.zeroValue203
 g17:=by kernel_rfl
 g18:=by kernel_rfl
 g19:=by kernel_rfl }
theorem Tryz.Builder_Extra_166:Builder.Extra Tryz.prog Tryz.lays166_ren:={
 sizeBuilder:=by kernel_rfl
 liesBuilder:=by kernel_rfl
 t5:=Tryz.underlying5
 a5:=Tryz.isAgg5
 z5:=Tryz.sizeOf5
 v5:=Tryz.zeroValue5
 infoByte:=by kernel_rfl
 cellsByte:=by kernel_rfl
 sizeByte:=by kernel_rfl
 neB5:=by decide }
theorem Tryz.Builder_Extra_169:Builder.Extra Tryz.prog Tryz.lays169_ren:={
 sizeBuilder:=by kernel_rfl
 liesBuilder:=by kernel_rfl
 t5:=Tryz.underlying5
 a5:=Tryz.isAgg5
 z5:=Tryz.sizeOf5
 v5:=Tryz.zeroValue5
 infoByte:=by kernel_rfl
 cellsByte:=by kernel_rfl
 sizeByte:=by kernel_rfl
 neB5:=by decide }
end Go.Proofs
namespace Go.Proofs.YtpeghomkaphdcaaGreatDoor
open Go.RowKit Go.Shelf Go.Sort
set_option linter.unusedVariables false
theorem perm_lift {α β:Type} (f:α->β) {A B:List β} (h:A.Perm B):∀Z:List α,Z.map f=B->∃Z':List α,Z'.map f=A/\Z'.Perm Z:=by
 induction h with
 | nil=>intro Z hZ;exact ⟨Z,hZ,List.Perm.refl _⟩
 | cons x _ ih =>
  intro Z hZ
  match Z,hZ with
  | z :: Z,hZ =>
   rw [List.map_cons] at hZ
   injection hZ with h1 h2
   obtain ⟨Z',h3,h4⟩:=ih Z h2
   exact ⟨z :: Z',by rw [List.map_cons,h1,h3],h4.cons z⟩
 | swap x y l =>
  intro Z hZ
  match Z,hZ with
  | z1 :: z2 :: Z,hZ =>
   rw [List.map_cons,List.map_cons] at hZ
   injection hZ with h1 h2
   injection h2 with h2 h3
   exact ⟨z2 :: z1 :: Z,by rw [List.map_cons,List.map_cons,h1,h2,h3],List.Perm.swap _ _ _⟩
 | trans _ _ ih1 ih2 =>
  intro Z hZ
  obtain ⟨Z2,h3,h4⟩:=ih2 Z hZ
  obtain ⟨Z1,h5,h6⟩:=ih1 Z2 h3
  exact ⟨Z1,h5,h6.trans h4⟩
theorem ec_match {w:World} {E E':List Ec} {L:List En} (hl:E.length=L.length) (hi:∀i (h1:i < E.length) (h2:i < L.length),EcIs w E[i] L[i]) (hp:E'.Perm E):∃M:List En,M.Perm L/\M.length=E'.length/\∀i (h1:i < E'.length) (h2:i < M.length),EcIs w E'[i] M[i]:=by
 obtain ⟨Z,hZ1,hZ2⟩:=perm_lift Prod.fst hp (E.zip L) (List.map_fst_zip (by omega))
 have hz:∀z ∈ Z,EcIs w z.1 z.2:=fun z hz=>by
  obtain ⟨i,hi2,rfl⟩:=List.getElem_of_mem (hZ2.subset hz)
  rw [List.getElem_zip]
  rw [List.length_zip] at hi2
  exact hi i (by omega) (by omega)
 refine ⟨Z.map Prod.snd,?_,by rw [<-hZ1];simp,fun i h1 h2=>?_⟩
 ·have:=hZ2.map Prod.snd
  rw [List.map_snd_zip (by omega)] at this
  exact this
 ·have hiZ:i < Z.length:=by simpa using h2
  have e1:E'[i]=Z[i].1:=by simp only [<-hZ1,List.getElem_map]
  rw [e1,List.getElem_map]
  exact hz _ (List.getElem_mem _)
theorem ecs_own {w:World} {base:Nat} {o:Option Addr} {c:Nat} {E:List Ec} (h:w.ownsRow base 43 4 (.slice o E.length c) E.length (E.flatMap ecC)):EcS w (.slice o E.length c) E:=by
 rcases h.2 with ⟨h1,h2⟩ | ⟨g,cap,cur,hv,hb,hc,h3,h4,h5,h6⟩
 ·exact Or.inl ⟨h1,List.length_eq_zero_iff.1 h2⟩
 ·refine Or.inr ⟨⟨g,0,none⟩,cap,hv,h3,fun i hi=>?_⟩
  have h':=h
  rw [hv] at h'
  have key:∀k u,0 < k->(ecC E[i])[k]?=some u->w.cell? ⟨((⟨g,0,none⟩:Addr).add (i * 4)).block,((⟨g,0,none⟩:Addr).add (i * 4)).off+k,none⟩=some u:=fun k u hk hu=>by
   have:=h'.cells (g:=g) rfl (i * 4+k) u (ec_get E i hi k u hu)
   rw [hadd_off _ _ k hk] at this
   exact this
  have k0:=h'.cells (g:=g) rfl (i * 4+0) _ (ec_get E i hi 0 _ rfl)
  exact ⟨by simpa using k0,key 1 _ (by omega) rfl,key 2 _ (by omega) rfl,key 3 _ (by omega) rfl⟩
def Bld (B:Nat) (l:List UInt8) (w:World):Prop:=Lib.IsBuilderF 55 5 B B (Lib.byteCells l) w
theorem Bld.alloc {B:Nat} {l:List UInt8} {w:World} (h:Bld B l w) (o:Obj):Bld B l (w.alloc o):=Lib.IsBuilderF.alloc h o
theorem Bld.grow {B:Nat} {l:List UInt8} {w w':World} (h:Bld B l w) (hg:w.grownBy w' none):Bld B l w':=by
 have key:∀p,Lib.BuilderAtF 55 5 B B p (Lib.byteCells l) w->Lib.BuilderAtF 55 5 B B p (Lib.byteCells l) w':=fun p h=>by
  obtain ⟨h1,v,h2,h3,h4⟩:=h
  exact ⟨h1,v,(hg.block B (Array.getElem?_eq_some_iff.1 h2).1 (by simp)).trans h2,h3.kept hg (by cases v.ownBlock <;> simp),h4⟩
 exact h.imp (key _) (key _)
theorem bld_new (w:World):Bld w.heap.size [] (w.alloc (.cells #[.pointer none,.slice none 0 0] 55)):=Lib.IsBuilderF.of (Lib.fresh_isBuilder _ _ w)
def WrPost (B:Nat) (l:List UInt8) (w:World) (e:Ending) (w':World):Prop:=(∃k:Int,e=.returned (.tuple #[.int .i64 k,.nilIface]))/\Bld B l w'/\Below B w w'/\∀K nm ve dg o n c,w.heap[K]?=some (.cells #[.string nm,.string ve,.string dg,.slice o n c] 43 (0,0))->¬ K=B->w'.heap[K]?=some (.cells #[.string nm,.string ve,.string dg,.slice o n c] 43 (0,0))
theorem cWrite (B:Nat) (l:List UInt8) (s:ByteArray) (w:World) (h:Bld B l w) (hlen:l.length+s.size<=140737488355328) (hB:B<=w.heap.size) :
  Calls Tryz.prog 26 #[.pointer (some ⟨B,0,none⟩),.string s] w (WrPost B (l++s.data.toList) w):=by
 refine (Any.Builder_WriteString_k Tryz.lays166 Tryz.Builder_Extra_166 B B (Lib.byteCells l) s w h (by rw [Lib.byteCells_length];exact hlen) hB).mono ?_
 rintro e w' ⟨rfl,h1,h2,h3⟩
 refine ⟨⟨_,rfl⟩,Or.inr ?_,h2,fun K nm ve dg o n c hK hne=>h3 K _ hK (by simpa using hne) (fun c fz e=>by
  injection e with _ e2 _
  have e3:Tryz.lays166_ren.t 5=5:=rfl
  rw [e3] at e2
  cases e2)⟩
 have e1:Lib.byteCells l++Lib.strCells s=Lib.byteCells (l++s.data.toList):=by simp [Lib.byteCells,Lib.strCells]
 rw [e1] at h1
 exact h1
theorem cBuilt (B:Nat) (l:List UInt8) (w:World) (h:Bld B l w) (hB:B<=w.heap.size) :
  Calls Tryz.prog 28 #[.pointer (some ⟨B,0,none⟩)] w fun e w'=>e=.returned (.string ⟨l.toArray⟩)/\Below B w w':=(Any.Builder_String_any_k Tryz.lays169 Tryz.Builder_Extra_169 B B l w h hB).mono fun e w' ⟨h1,_,h2,_⟩=>⟨h1,h2⟩
theorem ent_text (y:En) (T:ByteArray) (hT:T.data.toList=91 :: (ndK (sortT y.nd) (sortT y.nd).length++[93])):[10,91,91,112,97,99,107,97,103,101,93,93,10]++(([100,105,103,101,115,116,32,61,32]++((qd y.dg).data.toList++[10]))++(([110,97,109,101,32,61,32]++((qd y.nm).data.toList++[10]))++(([110,101,101,100,115,32,61,32]++(T.data.toList++[10]))++([118,101,114,115,105,111,110,32,61,32]++((qd y.ve).data.toList++[10])))))=entB (riseE y):=by
 rw [hT,qd_list,qd_list,qd_list]
 unfold entB riseE
 simp
def Rnd (B K:Nat) (nm ve dg:ByteArray) (o:Option Addr) (n c:Nat) (W2:World) (l:List UInt8) (w:World):Prop:=Bld B l w/\B<=w.heap.size/\Below B W2 w/\K < w.heap.size/\w.heap[K]?=some (.cells #[.string nm,.string ve,.string dg,.slice o n c] 43 (0,0))
theorem Rnd.wr {B K:Nat} {nm ve dg:ByteArray} {o:Option Addr} {n c:Nat} {W2:World} {l l':List UInt8} {w w':World} {e:Ending} (h:Rnd B K nm ve dg o n c W2 l w) (hK:¬ K=B) (hw:WrPost B l' w e w'):Rnd B K nm ve dg o n c W2 l' w' :=
 ⟨hw.2.1,Nat.le_trans h.2.1 hw.2.2.1.size,h.2.2.1.trans hw.2.2.1,Nat.lt_of_lt_of_le h.2.2.2.1 hw.2.2.1.size,hw.2.2.2 K nm ve dg o n c h.2.2.2.2 hK⟩
theorem Rnd.grow {B K:Nat} {nm ve dg:ByteArray} {o:Option Addr} {n c:Nat} {W2:World} {l:List UInt8} {w w':World} (h:Rnd B K nm ve dg o n c W2 l w) (hg:w.grownBy w' none):Rnd B K nm ve dg o n c W2 l w' :=
 ⟨h.1.grow hg,Nat.le_trans h.2.1 hg.size,h.2.2.1.trans ⟨hg.os,hg.tape,hg.output,hg.size,fun k hk=>hg.block k (Nat.lt_of_lt_of_le hk h.2.1) (by simp)⟩,Nat.lt_of_lt_of_le h.2.2.2.1 hg.size,(hg.block K h.2.2.2.1 (by simp)).trans h.2.2.2.2⟩
set_option maxRecDepth 100000 in
set_option maxHeartbeats 6400000 in
theorem textOf_any (v:Value) (L:List En) (w:World) (h:EnS w v L) (hl:L.length<=50) (hsh:∀x ∈ L,Short x) (hnd:(L.map (·.nm)).Nodup) :
  Calls Tryz.prog 19 #[v] w fun e w'=>e=.returned (.string (lockT L))/\w.grownBy w' none:=by
 obtain ⟨E,hE,hEl,hEi⟩:=ens_ecs h
 obtain ⟨o,c,rfl⟩:=ens_slice h
 obtain ⟨n,hn⟩:∃n,L.length=n:=⟨_,rfl⟩
 have hb0:=heap_alloc_new w (.cells #[.slice o n c] 23)
 have CSf:Hid (Calls Tryz.prog 34 #[.func (.func 57) #[] #[.pointer (some ⟨w.heap.size,0,none⟩)],.func (.func 36) #[] #[]] (w.alloc (.cells #[.slice o n c] 23)) fun e w'=>∃(E':List Ec) (o2:Option Addr) (c2:Nat),e=.returned (.slice o2 n c2)/\E'.length=n/\EcS w' (.slice o2 n c2) E'/\(∀i (h1:i < E'.length) (h2:i < (sortE L).length),EcIs w' E'[i] (sortE L)[i])/\w.grownBy w' none):=by
  have hEn:E.length=n:=hEl.trans hn
  have key:=sfuncE w.heap.size o c E (by omega) (w.alloc (.cells #[.slice o n c] 23)) (by rw [hEn];exact hb0) (by rw [hEl];exact hE.grow (gb_alloc (gb_refl w none) _))
  refine key.mono fun e w' ⟨E',o2,c2,h1,hp,hr,hown,hg⟩=>?_
  have hE'n:E'.length=n:=hp.length_eq.trans hEn
  have hgw:w.grownBy w' none:=gb_trans (gb_alloc (gb_refl w none) _) hg
  obtain ⟨M,hM1,hM2,hM3⟩:=ec_match hEl hEi hp
  have hMr:RiseE M:=by
   unfold RiseE
   rw [List.pairwise_iff_getElem]
   intro i j hi hj hij
   have:=List.pairwise_iff_getElem.1 hr i j (by omega) (by omega) hij
   rw [(hM3 i (by omega) hi).1,(hM3 j (by omega) hj).1] at this
   exact this
  have hMs:=sortE_one hnd hM1 hMr
  subst hMs
  refine ⟨E',o2,c2,by rw [<-hE'n];exact h1,hE'n,by rw [<-hE'n];exact ecs_own hown,fun i h1 h2=>(hM3 i h1 h2).grow hgw,hgw⟩
 have hML:(sortE L).length=n:=(sortE_perm L).length_eq.trans hn
 have hMS:∀y ∈ sortE L,Short y:=fun y hy=>hsh y ((sortE_perm L).subset hy)
 have hLT:lockT L=⟨(lockB ((sortE L).map riseE)).toArray⟩:=rfl
 rw [hLT]
 obtain ⟨M,hM⟩:∃M,sortE L=M:=⟨_,rfl⟩
 rw [hM] at CSf hML hMS ⊢
 have HMS:Hid (∀y ∈ M,Short y):=hMS
 have HML:Hid (M.length=n):=hML
 rw [hn]
 rw [hn] at hl
 have CI:Hid (∀wx,Calls Tryz.prog 38 #[.int .i64 1] wx fun e w'=>e=.returned (.string ⟨(Lib.decDigits 1).toArray⟩)/\w'=wx):=fun wx=>Any.strconv_Itoa_small Tryz.lays171 1 (by decide) wx
 have hdd:(⟨(Lib.decDigits 1).toArray⟩:ByteArray)=⟨#[49]⟩:=by
  rw [Lib.decDigits];rfl
 rw [hdd] at CI
 have CQ:Hid (∀s wx,s.size<=1048576->Calls Tryz.prog 39 #[.string s] wx fun e w'=>e=.returned (.string (qd s))/\w'=wx):=fun s wx hs=>quoted_any s wx hs
 have CL:Hid (∀v N wx,TxS wx v N->N.length<=20->(∀y ∈ N,y.size<=1048576)->Calls Tryz.prog 40 #[v] wx fun e w'=>∃T:ByteArray,e=.returned (.string T)/\T.data.toList=91 :: (ndK (sortT N) (sortT N).length++[93])/\wx.grownBy w' none):=fun v N wx h1 h2 h3=>listOf_any v N wx h1 h2 h3
 have c1:∀wx,(Op.stringOp .add ⟨#[102,111,114,109,97,116,32,61,32]⟩ ⟨#[49]⟩).run Tryz.prog wx=.ok (.string (cat ⟨#[102,111,114,109,97,116,32,61,32]⟩ ⟨#[49]⟩)) wx:=fun wx=>add_cat _ _ wx (by decide)
 have l1:=cat_list ⟨#[102,111,114,109,97,116,32,61,32]⟩ ⟨#[49]⟩
 have z1:(cat ⟨#[102,111,114,109,97,116,32,61,32]⟩ ⟨#[49]⟩).size=10:=cat_size _ _
 generalize cat ⟨#[102,111,114,109,97,116,32,61,32]⟩ ⟨#[49]⟩=Z1 at c1 l1 z1
 have c2:∀wx,(Op.stringOp .add Z1 ⟨#[10]⟩).run Tryz.prog wx=.ok (.string (cat Z1 ⟨#[10]⟩)) wx:=fun wx=>add_cat _ _ wx (by rw [z1];decide)
 have l2:=cat_list Z1 ⟨#[10]⟩
 have z2:(cat Z1 ⟨#[10]⟩).size=Z1.size+1:=cat_size _ _
 generalize cat Z1 ⟨#[10]⟩=Z2 at c2 l2 z2
 have HZ2:Hid ([]++Z2.data.toList=[102,111,114,109,97,116,32,61,32,49,10]++((M.map riseE).take 0).flatMap entB):=by
  show _=_
  rw [l2,l1];rfl
 have hz2:Z2.size=11:=by omega
 clear h hE hEl hEi hb0 hsh hnd hM hML hMS hLT hdd l1 l2 z1 z2 hn
 go_enter Tryz.func19,Tryz.ntmps19
 go_wp2_with (first | (go_at_call 35;refine (valE_any _ _ _ _).mono ?_;rintro e w' ⟨rfl,rfl⟩) | (go_at_call 34;refine CSf.out.mono ?_))
 rintro e W2 ⟨E',o2,c2',rfl,hEn,hecs,hpt,hg2⟩
 have HEC:Hid (E'.length=n/\EcS W2 (.slice o2 n c2') E'/\∀i (h1:i < E'.length) (h2:i < M.length),EcIs W2 E'[i] M[i]):=⟨hEn,hecs,hpt⟩
 have HG2:Hid (w.grownBy W2 none):=hg2
 obtain ⟨B,hB⟩:∃B,W2.heap.size=B:=⟨_,rfl⟩
 have HB:Hid (W2.heap.size=B):=hB
 have hbn:=bld_new W2
 rw [hB] at hbn
 have CW:Hid (∀l s wx,Bld B l wx->l.length+s.size<=140737488355328->B<=wx.heap.size->Calls Tryz.prog 26 #[.pointer (some ⟨B,0,none⟩),.string s] wx (WrPost B (l++s.data.toList) wx)):=fun l s wx h1 h2 h3=>cWrite B l s wx h1 h2 h3
 have HBN:Hid (Bld B [] (W2.alloc (.cells #[.pointer none,.slice none 0 0] 55))/\B<=(W2.alloc (.cells #[.pointer none,.slice none 0 0] 55)).heap.size):=⟨hbn,by rw [World.size_alloc,hB];omega⟩
 clear hEn hecs hpt hg2 hbn
 have HCB:Hid (∀l wx,Bld B l wx->B<=wx.heap.size->Calls Tryz.prog 28 #[.pointer (some ⟨B,0,none⟩)] wx fun e w'=>e=.returned (.string ⟨l.toArray⟩)/\Below B wx w'):=fun l wx h1 h2=>cBuilt B l wx h1 h2
 go_wp2_with (first | (go_at_call 38;refine (CI.out _).mono ?_;rintro e w' ⟨rfl,rfl⟩) | (go_at_call 26;refine (CW.out [] Z2 _ HBN.out.1 (by rw [hz2];decide) HBN.out.2).mono ?_))
 rintro e W3 ⟨⟨k0,rfl⟩,hb3,hw3,-⟩
 have HI3:Hid (Bld B ([102,111,114,109,97,116,32,61,32,49,10]++((M.map riseE).take 0).flatMap entB) W3/\Below B W2 W3/\B < W3.heap.size):=by
  refine ⟨?_,((Below.refl B W2).alloc (by rw [hB];exact Nat.le_refl _) _).trans hw3,?_⟩
  ·rw [<-HZ2.out];exact hb3
  ·have:=hw3.size
   rw [World.size_alloc,hB] at this
   omega
 clear hb3 hw3 HBN hB c1 c2
 go_wp2
 go_loopw [16] (fun vi wr=>∃i:Nat,vi=.int .i64 i/\i<=n/\(Bld B ([102,111,114,109,97,116,32,61,32,49,10]++((M.map riseE).take i).flatMap entB) wr/\Below B W2 wr/\B < wr.heap.size)/\([102,111,114,109,97,116,32,61,32,49,10]++((M.map riseE).take i).flatMap entB).length<=11+i * 67108864) (fun vi _=>n - (intOf vi).toNat)
 case atStart=>exact ⟨0,rfl,Nat.zero_le _,HI3.out,by simp⟩
 case round =>
  obtain ⟨i,rfl,hi,⟨hbl,hbw,hbs⟩,hln⟩:=hrel
  have HGW:Hid (W2.grownBy wr none):=by
   refine ⟨hbw.os,hbw.tape,hbw.output,hbw.size,fun k hk _=>hbw.block k (by rw [<-HB.out];exact hk)⟩
  have HBW:Hid (Below B W2 wr):=hbw
  by_cases hlt:i < n
  ·obtain ⟨hEn,hecs,hpt⟩:=HEC.out
   have hix:i < E'.length:=by omega
   have hecs2:EcS wr (.slice o2 E'.length c2') E':=by rw [hEn];exact hecs.grow HGW.out
   obtain ⟨a,rfl,hcp,hat⟩:=ecs_at hecs2 hix
   have hiM:i < M.length:=by rw [HML.out];exact hlt
   obtain ⟨p1,p2,p3,p4⟩:=hpt i hix hiM
   obtain ⟨e0,e1,e2,e3⟩:=hat i hix
   obtain ⟨q1,q2,q3,q4,q5⟩:=HMS.out M[i] (List.getElem_mem _)
   have HNX:Hid (((M.map riseE).take (i+1)).flatMap entB=((M.map riseE).take i).flatMap entB++entB (riseE M[i])):=by
    show _=_
    rw [flat_snoc (M.map riseE) i (by rw [List.length_map];exact hiM),List.getElem_map]
   obtain ⟨y,hy⟩:∃y,M[i]=y:=⟨_,rfl⟩
   rw [hy] at p1 p2 p3 p4 q1 q2 q3 q4 q5 HNX
   obtain ⟨x,hx⟩:∃x,E'[i]=x:=⟨_,rfl⟩
   rw [hx] at p1 p2 p3 p4 e0 e1 e2 e3
   obtain ⟨xn,xv,xd,xo,xm,xc⟩:=x
   obtain ⟨yn,yv,yd,N⟩:=y
   simp only [] at p1 p2 p3 p4 q1 q2 q3 q4 q5 e0 e1 e2 e3
   subst p1 p2 p3
   have HTX2:Hid (TxS W2 (.slice xo xm xc) N):=p4
   have HQ5:Hid (∀y ∈ N,y.size<=1048576):=q5
   have hcp':n<=c2':=by omega
   obtain ⟨l0,hl0⟩:∃l,[102,111,114,109,97,116,32,61,32,49,10]++((M.map riseE).take i).flatMap entB=l:=⟨_,rfl⟩
   have HL0:Hid ([102,111,114,109,97,116,32,61,32,49,10]++((M.map riseE).take i).flatMap entB=l0):=hl0
   rw [hl0] at hbl hln
   obtain ⟨K,hK⟩:∃K,wr.heap.size=K:=⟨_,rfl⟩
   have HKB:Hid (¬ K=B):=by show ¬ _;omega
   have HKE:Hid (wr.heap.size=K):=hK
   have hBK:B < K:=by omega
   have hnew:=heap_alloc_new wr (.cells #[.string xn,.string xv,.string xd,.slice xo xm xc] 43)
   rw [hK] at hnew
   have HWA:Hid (Bld B l0 (wr.alloc (.cells #[.string xn,.string xv,.string xd,.slice xo xm xc] 43))/\B<=(wr.alloc (.cells #[.string xn,.string xv,.string xd,.slice xo xm xc] 43)).heap.size/\Below B W2 (wr.alloc (.cells #[.string xn,.string xv,.string xd,.slice xo xm xc] 43))/\K < (wr.alloc (.cells #[.string xn,.string xv,.string xd,.slice xo xm xc] 43)).heap.size/\(wr.alloc (.cells #[.string xn,.string xv,.string xd,.slice xo xm xc] 43)).heap[K]?=some (.cells #[.string xn,.string xv,.string xd,.slice xo xm xc] 43 (0,0))) :=
    ⟨hbl.alloc _,by rw [World.size_alloc];omega,hbw.alloc (by omega) _,by rw [World.size_alloc];omega,hnew⟩
   have HLN:Hid (l0.length<=11+i * 67108864):=hln
   clear hbl hbw hln hecs hecs2 hpt hat p4 q5 hy hx hl0 hnew hK hcp hEn hix hiM
   have c2a:∀wx,(Op.stringOp .add ⟨#[100,105,103,101,115,116,32,61,32]⟩ (qd xd)).run Tryz.prog wx=.ok (.string (cat ⟨#[100,105,103,101,115,116,32,61,32]⟩ (qd xd))) wx:=fun wx=>add_cat _ _ wx (by show 9+_<=_;have:=qd_size xd;omega)
   have l2a:=cat_list ⟨#[100,105,103,101,115,116,32,61,32]⟩ (qd xd)
   have z2a:(cat ⟨#[100,105,103,101,115,116,32,61,32]⟩ (qd xd)).size=9+((qd xd)).size:=cat_size _ _
   generalize cat ⟨#[100,105,103,101,115,116,32,61,32]⟩ (qd xd)=S2a at c2a l2a z2a
   have c2:∀wx,(Op.stringOp .add S2a ⟨#[10]⟩).run Tryz.prog wx=.ok (.string (cat S2a ⟨#[10]⟩)) wx:=fun wx=>add_cat _ _ wx (by show _+1<=_;have:=qd_size xd;omega)
   have l2:=cat_list S2a ⟨#[10]⟩
   have z2:(cat S2a ⟨#[10]⟩).size=S2a.size+1:=cat_size _ _
   generalize cat S2a ⟨#[10]⟩=S2 at c2 l2 z2
   have HS2:Hid (S2.data.toList=[100,105,103,101,115,116,32,61,32]++((qd xd).data.toList++[10])):=by
    show _=_
    rw [l2,l2a];simp
   have hs2:S2.size<=0+9+1+((qd xd)).size:=by omega
   clear l2a l2 z2a z2
   have c3a:∀wx,(Op.stringOp .add ⟨#[110,97,109,101,32,61,32]⟩ (qd xn)).run Tryz.prog wx=.ok (.string (cat ⟨#[110,97,109,101,32,61,32]⟩ (qd xn))) wx:=fun wx=>add_cat _ _ wx (by show 7+_<=_;have:=qd_size xn;omega)
   have l3a:=cat_list ⟨#[110,97,109,101,32,61,32]⟩ (qd xn)
   have z3a:(cat ⟨#[110,97,109,101,32,61,32]⟩ (qd xn)).size=7+((qd xn)).size:=cat_size _ _
   generalize cat ⟨#[110,97,109,101,32,61,32]⟩ (qd xn)=S3a at c3a l3a z3a
   have c3:∀wx,(Op.stringOp .add S3a ⟨#[10]⟩).run Tryz.prog wx=.ok (.string (cat S3a ⟨#[10]⟩)) wx:=fun wx=>add_cat _ _ wx (by show _+1<=_;have:=qd_size xn;omega)
   have l3:=cat_list S3a ⟨#[10]⟩
   have z3:(cat S3a ⟨#[10]⟩).size=S3a.size+1:=cat_size _ _
   generalize cat S3a ⟨#[10]⟩=S3 at c3 l3 z3
   have HS3:Hid (S3.data.toList=[110,97,109,101,32,61,32]++((qd xn).data.toList++[10])):=by
    show _=_
    rw [l3,l3a];simp
   have hs3:S3.size<=0+7+1+((qd xn)).size:=by omega
   clear l3a l3 z3a z3
   have c5a:∀wx,(Op.stringOp .add ⟨#[118,101,114,115,105,111,110,32,61,32]⟩ (qd xv)).run Tryz.prog wx=.ok (.string (cat ⟨#[118,101,114,115,105,111,110,32,61,32]⟩ (qd xv))) wx:=fun wx=>add_cat _ _ wx (by show 10+_<=_;have:=qd_size xv;omega)
   have l5a:=cat_list ⟨#[118,101,114,115,105,111,110,32,61,32]⟩ (qd xv)
   have z5a:(cat ⟨#[118,101,114,115,105,111,110,32,61,32]⟩ (qd xv)).size=10+((qd xv)).size:=cat_size _ _
   generalize cat ⟨#[118,101,114,115,105,111,110,32,61,32]⟩ (qd xv)=S5a at c5a l5a z5a
   have c5:∀wx,(Op.stringOp .add S5a ⟨#[10]⟩).run Tryz.prog wx=.ok (.string (cat S5a ⟨#[10]⟩)) wx:=fun wx=>add_cat _ _ wx (by show _+1<=_;have:=qd_size xv;omega)
   have l5:=cat_list S5a ⟨#[10]⟩
   have z5:(cat S5a ⟨#[10]⟩).size=S5a.size+1:=cat_size _ _
   generalize cat S5a ⟨#[10]⟩=S5 at c5 l5 z5
   have HS5:Hid (S5.data.toList=[118,101,114,115,105,111,110,32,61,32]++((qd xv).data.toList++[10])):=by
    show _=_
    rw [l5,l5a];simp
   have hs5:S5.size<=0+10+1+((qd xv)).size:=by omega
   clear l5a l5 z5a z5
   have hqd:=qd_size xd
   have hqn:=qd_size xn
   have hqv:=qd_size xv
   have hln:=HLN.out
   have CW1:Hid (∀wx,Bld B l0 wx->B<=wx.heap.size->Calls Tryz.prog 26 #[.pointer (some ⟨B,0,none⟩),.string ⟨#[10,91,91,112,97,99,107,97,103,101,93,93,10]⟩] wx (WrPost B (l0++[10,91,91,112,97,99,107,97,103,101,93,93,10]) wx)):=fun wx h1 h2=>CW.out l0 ⟨#[10,91,91,112,97,99,107,97,103,101,93,93,10]⟩ wx h1 (by show _+13<=_;omega) h2
   obtain ⟨WA,hWA⟩:∃WA,wr.alloc (.cells #[.string xn,.string xv,.string xd,.slice xo xm xc] 43)=WA:=⟨_,rfl⟩
   have HWE:Hid (wr.alloc (.cells #[.string xn,.string xv,.string xd,.slice xo xm xc] 43)=WA):=hWA
   rw [hWA] at HWA
   clear hWA hln
   go_wp2_with (first | (go_at_call 26;(try rw [HKE.out]);rw [HWE.out];refine (CW1.out WA HWA.out.1 HWA.out.2.1).mono ?_))
   rintro e w1 ⟨⟨k1,rfl⟩,hh⟩
   have HR1:Hid (Rnd B K xn xv xd xo xm xc W2 (l0++[10,91,91,112,97,99,107,97,103,101,93,93,10]) w1):=Rnd.wr (show Rnd B K xn xv xd xo xm xc W2 l0 WA from HWA.out) HKB.out (e:=.returned (.tuple #[.int .i64 k1,.nilIface])) ⟨⟨_,rfl⟩,hh⟩
   obtain ⟨l1,hl1⟩:∃l,l0++[10,91,91,112,97,99,107,97,103,101,93,93,10]=l:=⟨_,rfl⟩
   have HL1:Hid (l0++[10,91,91,112,97,99,107,97,103,101,93,93,10]=l1):=hl1
   have n1:l1.length=l0.length+13:=by rw [<-hl1];simp
   rw [hl1] at HR1
   clear hh hl1 CW1
   have f2:=(en_block HR1.out.2.2.2.2).2.2.1
   go_wp2_with (first | (go_at_call 39;refine (CQ.out xd _ q3).mono ?_;rintro e w' ⟨rfl,rfl⟩) | (go_at_call 26;refine (CW.out l1 S2 _ HR1.out.1 (by have:=HLN.out;omega) HR1.out.2.1).mono ?_))
   rintro e w2 ⟨⟨k2,rfl⟩,hh⟩
   have HR2:Hid (Rnd B K xn xv xd xo xm xc W2 (l1++S2.data.toList) w2):=Rnd.wr HR1.out HKB.out (e:=.returned (.tuple #[.int .i64 k2,.nilIface])) ⟨⟨_,rfl⟩,hh⟩
   obtain ⟨l2,hl2⟩:∃l,l1++S2.data.toList=l:=⟨_,rfl⟩
   have HL2:Hid (l1++S2.data.toList=l2):=hl2
   have n2:l2.length=l1.length+S2.size:=by rw [<-hl2];simp
   rw [hl2] at HR2
   clear hh hl2
   have f0:=(en_block HR2.out.2.2.2.2).1
   go_wp2_with (first | (go_at_call 39;refine (CQ.out xn _ q1).mono ?_;rintro e w' ⟨rfl,rfl⟩) | (go_at_call 26;refine (CW.out l2 S3 _ HR2.out.1 (by have:=HLN.out;omega) HR2.out.2.1).mono ?_))
   rintro e w3 ⟨⟨k3,rfl⟩,hh⟩
   have HR3:Hid (Rnd B K xn xv xd xo xm xc W2 (l2++S3.data.toList) w3):=Rnd.wr HR2.out HKB.out (e:=.returned (.tuple #[.int .i64 k3,.nilIface])) ⟨⟨_,rfl⟩,hh⟩
   obtain ⟨l3,hl3⟩:∃l,l2++S3.data.toList=l:=⟨_,rfl⟩
   have HL3:Hid (l2++S3.data.toList=l3):=hl3
   have n3:l3.length=l2.length+S3.size:=by rw [<-hl3];simp
   rw [hl3] at HR3
   clear hh hl3
   have f3:=(en_block HR3.out.2.2.2.2).2.2.2
   have HTX3:Hid (TxS w3 (.slice xo xm xc) N):=by
    have hb:=HR3.out.2.2.1
    exact HTX2.out.grow ⟨hb.os,hb.tape,hb.output,hb.size,fun k hk _=>hb.block k (by rw [<-HB.out];exact hk)⟩
   go_wp2_with (first | (go_at_call 40;refine (CL.out _ N _ HTX3.out q4 HQ5.out).mono ?_))
   rintro e w4 ⟨T,rfl,hT,hg4⟩
   have HR3':Hid (Rnd B K xn xv xd xo xm xc W2 l3 w4):=HR3.out.grow hg4
   have HT:Hid (T.data.toList=91 :: (ndK (sortT N) (sortT N).length++[93])):=hT
   have hTs:T.size<=20 * 1048580+2:=by
    have h1:=ndk_len (sortT N) (fun y hy=>HQ5.out y ((sortT_perm N).subset hy)) _ (Nat.le_refl _)
    rw [(sortT_perm N).length_eq] at h1
    have h2:=congrArg List.length hT
    rw [(sortT_perm N).length_eq] at h2
    simp only [List.length_cons,List.length_append,List.length_nil] at h2
    have h3:T.data.toList.length=T.size:=by simp
    have h4:N.length * 1048580<=20 * 1048580:=Nat.mul_le_mul_right _ q4
    omega
   clear hT hg4
   have c4a:∀wx,(Op.stringOp .add ⟨#[110,101,101,100,115,32,61,32]⟩ T).run Tryz.prog wx=.ok (.string (cat ⟨#[110,101,101,100,115,32,61,32]⟩ T)) wx:=fun wx=>add_cat _ _ wx (by show 8+_<=_;omega)
   have l4a:=cat_list ⟨#[110,101,101,100,115,32,61,32]⟩ T
   have z4a:(cat ⟨#[110,101,101,100,115,32,61,32]⟩ T).size=8+T.size:=cat_size _ _
   generalize cat ⟨#[110,101,101,100,115,32,61,32]⟩ T=S4a at c4a l4a z4a
   have c4:∀wx,(Op.stringOp .add S4a ⟨#[10]⟩).run Tryz.prog wx=.ok (.string (cat S4a ⟨#[10]⟩)) wx:=fun wx=>add_cat _ _ wx (by show _+1<=_;omega)
   have l4':=cat_list S4a ⟨#[10]⟩
   have z4:(cat S4a ⟨#[10]⟩).size=S4a.size+1:=cat_size _ _
   generalize cat S4a ⟨#[10]⟩=S4 at c4 l4' z4
   have HS4:Hid (S4.data.toList=[110,101,101,100,115,32,61,32]++(T.data.toList++[10])):=by
    show _=_
    rw [l4',l4a];simp
   have hs4:S4.size<=9+T.size:=by omega
   clear l4a l4' z4a z4
   go_wp2_with (first | (go_at_call 26;refine (CW.out l3 S4 _ HR3'.out.1 (by have:=HLN.out;omega) HR3'.out.2.1).mono ?_))
   rintro e w5 ⟨⟨k4,rfl⟩,hh⟩
   have HR4:Hid (Rnd B K xn xv xd xo xm xc W2 (l3++S4.data.toList) w5):=Rnd.wr HR3'.out HKB.out (e:=.returned (.tuple #[.int .i64 k4,.nilIface])) ⟨⟨_,rfl⟩,hh⟩
   obtain ⟨l4,hl4⟩:∃l,l3++S4.data.toList=l:=⟨_,rfl⟩
   have HL4:Hid (l3++S4.data.toList=l4):=hl4
   have n4:l4.length=l3.length+S4.size:=by rw [<-hl4];simp
   rw [hl4] at HR4
   clear hh hl4
   have f1:=(en_block HR4.out.2.2.2.2).2.1
   go_wp2_with (first | (go_at_call 39;refine (CQ.out xv _ q2).mono ?_;rintro e w' ⟨rfl,rfl⟩) | (go_at_call 26;refine (CW.out l4 S5 _ HR4.out.1 (by have:=HLN.out;omega) HR4.out.2.1).mono ?_))
   rintro e w6 ⟨⟨k5,rfl⟩,hh⟩
   have HR5:Hid (Rnd B K xn xv xd xo xm xc W2 (l4++S5.data.toList) w6):=Rnd.wr HR4.out HKB.out (e:=.returned (.tuple #[.int .i64 k5,.nilIface])) ⟨⟨_,rfl⟩,hh⟩
   obtain ⟨l5,hl5⟩:∃l,l4++S5.data.toList=l:=⟨_,rfl⟩
   have HL5:Hid (l4++S5.data.toList=l5):=hl5
   have n5:l5.length=l4.length+S5.size:=by rw [<-hl5];simp
   rw [hl5] at HR5
   clear hh hl5
   have HFIN:Hid ([102,111,114,109,97,116,32,61,32,49,10]++((M.map riseE).take (i+1)).flatMap entB=l5):=by
    show _=_
    rw [<-HL5.out,<-HL4.out,<-HL3.out,<-HL2.out,<-HL1.out,<-HL0.out,HNX.out,HS2.out,HS3.out,HS4.out,HS5.out,<-ent_text ⟨xn,xv,xd,N⟩ T HT.out]
    simp only [List.append_assoc]
   have hfl:l5.length<=11+(i+1) * 67108864:=by have:=HLN.out;omega
   have HBS:Hid (B < w6.heap.size):=by
    have h1:=HR5.out.2.1
    have h2:=HR5.out.2.2.2.1
    have h3:=HKE.out
    show B < _
    omega
   clear c2a c2 c3a c3 c5a c5 c4a c4
   go_wp2
   go_roundw
   case rel=>exact ⟨i+1,by go_num,by omega,by rw [HFIN.out];exact ⟨HR5.out.1,HR5.out.2.2.1,HBS.out⟩,by rw [HFIN.out];exact hfl⟩
   case measure=>simp [intOf];omega
  ·have hie:i=n:=by omega
   have HLF:Hid ([102,111,114,109,97,116,32,61,32,49,10]++((M.map riseE).take i).flatMap entB=lockB (M.map riseE)):=by
    show _=_
    rw [hie,List.take_of_length_le (by rw [List.length_map,HML.out];exact Nat.le_refl _)];rfl
   have HBL:Hid (Bld B (lockB (M.map riseE)) wr/\B<=wr.heap.size):=by
    rw [<-HLF.out];exact ⟨hbl,by omega⟩
   clear hbl hbw hln hie
   go_wp2_with (first | (go_at_call 28;refine (HCB.out _ _ HBL.out.1 HBL.out.2).mono ?_;rintro e w9 ⟨rfl,hb9⟩))
   go_ret
   refine ⟨rfl,gb_trans HG2.out ?_⟩
   have hb:=HBW.out.trans hb9
   exact ⟨hb.os,hb.tape,hb.output,hb.size,fun k hk _=>hb.block k (by rw [<-HB.out];exact hk)⟩
end Go.Proofs.YtpeghomkaphdcaaGreatDoor
