import Derived.Shelf.Strings.BuilderRune
import Derived.Shelf.Strings.BuilderF
import Derived.Test.YtbgnflcebafjjaaGreatDoorProg
import Derived.Test.YtbgnflcebafjjaaGreatDoorM03
import Derived.Test.YtbgnflcebafjjaaGreatDoorM02
namespace Go.Proofs
open Go.Shelf
def Tryz.lays166_ren:Go.Shelf.Ren:=⟨fun | 166=>60 | 240=>90 | 276=>113 | n=>n,fun | 22=>41 | 27=>155 | 28=>31 | 31=>108 | 34=>54 | 35=>157 | 37=>74 | 40=>212 | 41=>71 | 42=>158 | 43=>156 | 46=>175 | 47=>174 | 48=>200 | 49=>258 | 51=>193 | 52=>192 | 53=>195 | 54=>194 | 55=>177 | 69=>87 | 70=>73 | 71=>75 | 72=>76 | 73=>79 | 74=>42 | 75=>43 | 76=>118 | 77=>119 | 78=>121 | 79=>180 | 80=>85 | 81=>90 | 83=>127 | 84=>196 | 85=>218 | 86=>219 | 94=>125 | 104=>34 | 105=>181 | 106=>182 | 108=>233 | 111=>91 | 112=>159 | 114=>211 | 119=>213 | 126=>198 | 127=>126 | 128=>199 | 131=>190 | 137=>214 | 138=>215 | 139=>216 | 143=>235 | 144=>236 | 145=>237 | 164=>93 | 165=>176 | 167=>217 | 168=>220 | 169=>221 | 170=>222 | 171=>207 | 172=>208 | 173=>209 | 174=>210 | 175=>229 | 176=>230 | 182=>185 | 183=>186 | 209=>231 | 210=>232 | 211=>226 | 212=>227 | 213=>228 | 214=>234 | 218=>201 | 219=>202 | 220=>203 | 222=>205 | 228=>223 | 229=>224 | 232=>238 | 233=>239 | 238=>240 | 239=>241 | 240=>242 | 241=>243 | 242=>244 | 243=>246 | 244=>101 | 245=>247 | 246=>248 | 247=>249 | 248=>250 | 249=>251 | n=>n,fun | 1=>6 | 3=>7 | 4=>8 | 15=>10 | 16=>11 | 17=>9 | 18=>12 | 19=>13 | n=>n⟩
set_option maxRecDepth 100000 in
theorem Tryz.lays166:Go.Proofs.Lays.n166 Tryz.prog Tryz.lays166_ren:={
 mixed:=by kernel_rfl
 f166:=Tryz.func60.trans (congrArg some (by kernel_rfl))
 f240:=Tryz.func90.trans (congrArg some (by kernel_rfl))
 f276:=Tryz.func113.trans (congrArg some (by kernel_rfl))
 t0:=Tryz.underlying0
 a0:=Tryz.isAgg0
 z0:=Tryz.sizeOf0
 v0:=Tryz.zeroValue0
 t3:=Tryz.underlying3
 a3:=Tryz.isAgg3
 z3:=Tryz.sizeOf3
 v3:=Tryz.zeroValue3
 t4:=Tryz.underlying4
 a4:=Tryz.isAgg4
 z4:=Tryz.sizeOf4
 v4:=Tryz.zeroValue4
 t9:=Tryz.underlying9
 a9:=Tryz.isAgg9
 z9:=Tryz.sizeOf9
 v9:=Tryz.zeroValue9
 t20:=Tryz.underlying20
 a20:=Tryz.isAgg20
 z20:=Tryz.sizeOf20
 v20:=Tryz.zeroValue20
 t37:=Tryz.underlying74
 a37:=Tryz.isAgg74
 z37:=Tryz.sizeOf74
 v37:=Tryz.zeroValue74
 t70:=Tryz.underlying73
 a70:=Tryz.isAgg73
 z70:=Tryz.sizeOf73
 v70:=Tryz.zeroValue73
 t72:=Tryz.underlying76
 a72:=Tryz.isAgg76
 z72:=Tryz.sizeOf76
 v72:=Tryz.zeroValue76
 t75:=Tryz.underlying43
 a75:=Tryz.isAgg43
 z75:=Tryz.sizeOf43
 v75:=Tryz.zeroValue43
 t164:=Tryz.underlying93
 a164:=Tryz.isAgg93
 z164:=Tryz.sizeOf93
 v164:=Tryz.zeroValue93 }
def Tryz.lays168_ren:Go.Shelf.Ren:=⟨fun | 168=>118 | 240=>90 | 242=>140 | 276=>113 | 278=>157 | n=>n,fun | 22=>41 | 27=>155 | 28=>31 | 31=>108 | 34=>54 | 35=>157 | 37=>74 | 40=>212 | 41=>71 | 42=>158 | 43=>156 | 46=>175 | 47=>174 | 48=>200 | 49=>258 | 51=>193 | 52=>192 | 53=>195 | 54=>194 | 55=>177 | 69=>87 | 70=>73 | 71=>75 | 72=>76 | 73=>79 | 74=>42 | 75=>43 | 76=>118 | 77=>119 | 78=>121 | 79=>180 | 80=>85 | 81=>90 | 83=>127 | 84=>196 | 85=>218 | 86=>219 | 94=>125 | 104=>34 | 105=>181 | 106=>182 | 108=>233 | 111=>91 | 112=>159 | 114=>211 | 119=>213 | 126=>198 | 127=>126 | 128=>199 | 131=>190 | 137=>214 | 138=>215 | 139=>216 | 143=>235 | 144=>236 | 145=>237 | 164=>93 | 165=>176 | 167=>217 | 168=>220 | 169=>221 | 170=>222 | 171=>207 | 172=>208 | 173=>209 | 174=>210 | 175=>229 | 176=>230 | 182=>185 | 183=>186 | 209=>231 | 210=>232 | 211=>226 | 212=>227 | 213=>228 | 214=>234 | 218=>201 | 219=>202 | 220=>203 | 222=>205 | 228=>223 | 229=>224 | 232=>238 | 233=>239 | 238=>240 | 239=>241 | 240=>242 | 241=>243 | 242=>244 | 243=>246 | 244=>101 | 245=>247 | 246=>248 | 247=>249 | 248=>250 | 249=>251 | n=>n,fun | 1=>6 | 3=>7 | 4=>8 | 15=>10 | 16=>11 | 17=>9 | 18=>12 | 19=>13 | n=>n⟩
set_option maxRecDepth 100000 in
theorem Tryz.lays168:Go.Proofs.Lays.n168 Tryz.prog Tryz.lays168_ren:={
 mixed:=by kernel_rfl
 f168:=Tryz.func118.trans (congrArg some (by kernel_rfl))
 f240:=Tryz.func90.trans (congrArg some (by kernel_rfl))
 f242:=Tryz.func140.trans (congrArg some (by kernel_rfl))
 f276:=Tryz.func113.trans (congrArg some (by kernel_rfl))
 f278:=Tryz.func157.trans (congrArg some (by kernel_rfl))
 t0:=Tryz.underlying0
 a0:=Tryz.isAgg0
 z0:=Tryz.sizeOf0
 v0:=Tryz.zeroValue0
 t3:=Tryz.underlying3
 a3:=Tryz.isAgg3
 z3:=Tryz.sizeOf3
 v3:=Tryz.zeroValue3
 t4:=Tryz.underlying4
 a4:=Tryz.isAgg4
 z4:=Tryz.sizeOf4
 v4:=Tryz.zeroValue4
 t5:=Tryz.underlying5
 a5:=Tryz.isAgg5
 z5:=Tryz.sizeOf5
 v5:=Tryz.zeroValue5
 t9:=Tryz.underlying9
 a9:=Tryz.isAgg9
 z9:=Tryz.sizeOf9
 v9:=Tryz.zeroValue9
 t20:=Tryz.underlying20
 a20:=Tryz.isAgg20
 z20:=Tryz.sizeOf20
 v20:=Tryz.zeroValue20
 t21:=Tryz.underlying21
 a21:=Tryz.isAgg21
 z21:=Tryz.sizeOf21
 v21:=Tryz.zeroValue21
 t37:=Tryz.underlying74
 a37:=Tryz.isAgg74
 z37:=Tryz.sizeOf74
 v37:=Tryz.zeroValue74
 t46:=Tryz.underlying175
 a46:=Tryz.isAgg175
 z46:=Tryz.sizeOf175
 v46:=Tryz.zeroValue175
 t51:=Tryz.underlying193
 a51:=Tryz.isAgg193
 z51:=Tryz.sizeOf193
 v51:=Tryz.zeroValue193
 t70:=Tryz.underlying73
 a70:=Tryz.isAgg73
 z70:=Tryz.sizeOf73
 v70:=Tryz.zeroValue73
 t72:=Tryz.underlying76
 a72:=Tryz.isAgg76
 z72:=Tryz.sizeOf76
 v72:=Tryz.zeroValue76
 t75:=Tryz.underlying43
 a75:=Tryz.isAgg43
 z75:=Tryz.sizeOf43
 v75:=Tryz.zeroValue43
 t164:=Tryz.underlying93
 a164:=Tryz.isAgg93
 z164:=Tryz.sizeOf93
 v164:=Tryz.zeroValue93 }
def Tryz.lays169_ren:Go.Shelf.Ren:=⟨fun | 169=>35 | n=>n,fun | 22=>41 | 27=>155 | 28=>31 | 31=>108 | 34=>54 | 35=>157 | 37=>74 | 40=>212 | 41=>71 | 42=>158 | 43=>156 | 46=>175 | 47=>174 | 48=>200 | 49=>258 | 51=>193 | 52=>192 | 53=>195 | 54=>194 | 55=>177 | 69=>87 | 70=>73 | 71=>75 | 72=>76 | 73=>79 | 74=>42 | 75=>43 | 76=>118 | 77=>119 | 78=>121 | 79=>180 | 80=>85 | 81=>90 | 83=>127 | 84=>196 | 85=>218 | 86=>219 | 94=>125 | 104=>34 | 105=>181 | 106=>182 | 108=>233 | 111=>91 | 112=>159 | 114=>211 | 119=>213 | 126=>198 | 127=>126 | 128=>199 | 131=>190 | 137=>214 | 138=>215 | 139=>216 | 143=>235 | 144=>236 | 145=>237 | 164=>93 | 165=>176 | 167=>217 | 168=>220 | 169=>221 | 170=>222 | 171=>207 | 172=>208 | 173=>209 | 174=>210 | 175=>229 | 176=>230 | 182=>185 | 183=>186 | 209=>231 | 210=>232 | 211=>226 | 212=>227 | 213=>228 | 214=>234 | 218=>201 | 219=>202 | 220=>203 | 222=>205 | 228=>223 | 229=>224 | 232=>238 | 233=>239 | 238=>240 | 239=>241 | 240=>242 | 241=>243 | 242=>244 | 243=>246 | 244=>101 | 245=>247 | 246=>248 | 247=>249 | 248=>250 | 249=>251 | n=>n,fun | 1=>6 | 3=>7 | 4=>8 | 15=>10 | 16=>11 | 17=>9 | 18=>12 | 19=>13 | n=>n⟩
set_option maxRecDepth 100000 in
theorem Tryz.lays169:Go.Proofs.Lays.n169 Tryz.prog Tryz.lays169_ren:={
 mixed:=by kernel_rfl
 f169:=Tryz.func35.trans (congrArg some (by kernel_rfl))
 t0:=Tryz.underlying0
 a0:=Tryz.isAgg0
 z0:=Tryz.sizeOf0
 v0:=Tryz.zeroValue0
 t3:=Tryz.underlying3
 a3:=Tryz.isAgg3
 z3:=Tryz.sizeOf3
 v3:=Tryz.zeroValue3
 t9:=Tryz.underlying9
 a9:=Tryz.isAgg9
 z9:=Tryz.sizeOf9
 v9:=Tryz.zeroValue9
 t37:=Tryz.underlying74
 a37:=Tryz.isAgg74
 z37:=Tryz.sizeOf74
 v37:=Tryz.zeroValue74
 t70:=Tryz.underlying73
 a70:=Tryz.isAgg73
 z70:=Tryz.sizeOf73
 v70:=Tryz.zeroValue73
 t72:=Tryz.underlying76
 a72:=Tryz.isAgg76
 z72:=Tryz.sizeOf76
 v72:=Tryz.zeroValue76
 t127:=Tryz.underlying126
 a127:=Tryz.isAgg126
 z127:=Tryz.sizeOf126
 v127:=Tryz.zeroValue126 }
theorem Tryz.Builder_Extra_166:Builder.Extra Tryz.prog Tryz.lays166_ren:={
 sizeBuilder:=by kernel_rfl
 liesBuilder:=by kernel_rfl
 t5:=Tryz.underlying5
 a5:=Tryz.isAgg5
 z5:=Tryz.sizeOf5
 v5:=Tryz.zeroValue5
 infoByte:=by kernel_rfl
 cellsByte:=by kernel_rfl
 sizeByte:=by kernel_rfl
 neB5:=by decide }
theorem Tryz.Builder_Extra_168:Builder.Extra Tryz.prog Tryz.lays168_ren:={
 sizeBuilder:=by kernel_rfl
 liesBuilder:=by kernel_rfl
 t5:=Tryz.underlying5
 a5:=Tryz.isAgg5
 z5:=Tryz.sizeOf5
 v5:=Tryz.zeroValue5
 infoByte:=by kernel_rfl
 cellsByte:=by kernel_rfl
 sizeByte:=by kernel_rfl
 neB5:=by decide }
theorem Tryz.Builder_Extra_169:Builder.Extra Tryz.prog Tryz.lays169_ren:={
 sizeBuilder:=by kernel_rfl
 liesBuilder:=by kernel_rfl
 t5:=Tryz.underlying5
 a5:=Tryz.isAgg5
 z5:=Tryz.sizeOf5
 v5:=Tryz.zeroValue5
 infoByte:=by kernel_rfl
 cellsByte:=by kernel_rfl
 sizeByte:=by kernel_rfl
 neB5:=by decide }
end Go.Proofs
namespace Go.Proofs.YtbgnflcebafjjaaGreatDoor
open Go.RowKit Go.Joins
set_option linter.unusedVariables false
def Bd (w:World) (B b:Nat) (acc:List UInt8):Prop:=Lib.IsBuilderF 76 5 B b (Lib.byteCells acc) w
theorem bfA_grow {T e:TypeId} {B b R:Nat} {p:Value} {bs:List Value} {w w':World} (h:Lib.BuilderAtF T e B b p bs w) (hg:w.grownBy w' (some R)) (hR:R < B):Lib.BuilderAtF T e B b p bs w':=by
 obtain ⟨hB,v,hb,hown,hne⟩:=h
 refine ⟨hB,v,(hg.block b (Array.getElem?_eq_some_iff.1 hb).1 (fun e=>by cases e;omega)).trans hb,hown.kept hg ?_,hne⟩
 cases hv:v.ownBlock with
 | none=>exact Or.inl rfl
 | some k =>
  refine Or.inr fun e=>?_
  cases e
  have:=(hown.lt _ hv).1
  omega
theorem Bd.grow {w w':World} {B b R:Nat} {acc:List UInt8} (h:Bd w B b acc) (hg:w.grownBy w' (some R)) (hR:R < B):Bd w' B b acc:=h.imp (fun h=>bfA_grow h hg hR) (fun h=>bfA_grow h hg hR)
theorem wrt_cells (n:Nat) (hn:n < 65536) (hs:sur n=false):Lib.runeCells (n:Nat)=Lib.byteCells (wrt n):=by
 have h1:∀k:Nat,k < 256->(UInt8.ofNat k).toNat=k:=fun k hk=>by simp;omega
 have hs':¬ (55296<=n/\n<=57343):=by
  have:=of_decide_eq_false (show decide (55296<=(n:Int)/\(n:Int)<=57343)=false from hs)
  omega
 unfold Lib.runeCells Lib.byteCells wrt
 by_cases a:n < 128
 ·rw [Lib.encodeRuneZ_one (by omega) (by omega),if_pos a]
  simp only [List.map_cons,List.map_nil,h1 n (by omega)]
 rw [if_neg a]
 by_cases b:n < 2048
 ·rw [Lib.encodeRuneZ_two (by omega) (by omega),if_pos b]
  simp only [List.map_cons,List.map_nil,h1 (192+n / 64) (by omega),h1 (128+n % 64) (by omega)]
  simp
 rw [if_neg b,Lib.encodeRuneZ_three (by omega)]
 simp only [List.map_cons,List.map_nil,h1 (224+n / 4096) (by omega),h1 (128+n / 64 % 64) (by omega),h1 (128+n % 64) (by omega)]
 simp
theorem cells_app (a b:List UInt8):Lib.byteCells (a++b)=Lib.byteCells a++Lib.byteCells b:=by simp [Lib.byteCells]
theorem cells_len (a:List UInt8):(Lib.byteCells a).length=a.length:=by simp [Lib.byteCells]
theorem tWriteRune_any (B b n:Nat) (acc:List UInt8) (w:World) (h:Bd w B b acc) (hn:n < 65536) (hs:sur n=false) (hl:acc.length<=1099511627776) (hB:B<=w.heap.size) :
  Calls Tryz.prog 118 #[.pointer (some ⟨b,0,none⟩),.int .i32 (n:Nat)] w fun e w'=>(∃k:Int,e=.returned (.tuple #[.int .i64 k,.nilIface]))/\Bd w' B b (acc++wrt n)/\Below B w w':=by
 refine (Any.Builder_WriteRune_k Tryz.lays168 Tryz.Builder_Extra_168 B b (Lib.byteCells acc) (n:Nat) (by omega) (by omega) w h (by rw [cells_len];omega) hB).mono ?_
 rintro e w' ⟨rfl,h1,h2,h3⟩
 refine ⟨⟨_,rfl⟩,Or.inr ?_,h2⟩
 rw [cells_app,<-wrt_cells n hn hs]
 exact h1
theorem tWriteS_any (B b:Nat) (acc x:List UInt8) (w:World) (h:Bd w B b acc) (hl:acc.length<=1099511627776) (hx:x.length<=1048576) (hB:B<=w.heap.size) :
  Calls Tryz.prog 60 #[.pointer (some ⟨b,0,none⟩),.string ⟨x.toArray⟩] w fun e w'=>(∃k:Int,e=.returned (.tuple #[.int .i64 k,.nilIface]))/\Bd w' B b (acc++x)/\Below B w w':=by
 have hz:(⟨x.toArray⟩:ByteArray).size=x.length:=by show x.toArray.size=_;simp
 refine (Any.Builder_WriteString_f Tryz.lays166 Tryz.Builder_Extra_166 B b (Lib.byteCells acc) ⟨x.toArray⟩ w h (by rw [cells_len,hz];omega) hB).mono ?_
 rintro e w' ⟨rfl,h1,h2⟩
 refine ⟨⟨_,rfl⟩,Or.inr ?_,h2⟩
 rw [cells_app]
 exact h1
theorem tBdString_any (B b:Nat) (acc:List UInt8) (w:World) (h:Bd w B b acc) (hB:B<=w.heap.size) :
  Calls Tryz.prog 35 #[.pointer (some ⟨b,0,none⟩)] w fun e w'=>e=.returned (.string ⟨acc.toArray⟩)/\Below B w w' :=
 (Any.Builder_String_any_f Tryz.lays169 Tryz.Builder_Extra_169 B b acc w h hB).mono fun e w' h=>⟨h.1,h.2.2⟩
end Go.Proofs.YtbgnflcebafjjaaGreatDoor
namespace Go.Proofs.YtbgnflcebafjjaaGreatDoor
open Go.RowKit Go.Joins
set_option linter.unusedVariables false
theorem four_ok (l:List UInt8):∀k i n m j,i<=l.length->four l k i n=.ok (m,j)->j=i+k/\j<=l.length/\m < (n+1) * 16 ^ k:=by
 intro k
 induction k with
 | zero =>
  intro i n m j hi h
  cases h
  exact ⟨rfl,hi,by simp⟩
 | succ k ih =>
  intro i n m j hi h
  rw [four_step] at h
  split at h
  ·cases h
  ·rename_i hx
   have hlt:i < l.length:=by
    apply Classical.byContradiction
    intro hn
    rw [nx_end l i (by omega),hexV_end] at hx
    omega
   obtain ⟨h1,h2,h3⟩:=ih (i+1) _ m j hlt h
   have hb:=hexV_bound (nx l i)
   refine ⟨by omega,h2,Nat.lt_of_lt_of_le h3 ?_⟩
   rw [Nat.pow_succ,Nat.mul_comm (16 ^ k) 16,<-Nat.mul_assoc]
   exact Nat.mul_le_mul_right _ (by omega)
theorem escC_small (x:Int) (n:Nat) (h:escC x=some n):n < 128/\0<=x:=by
 unfold escC at h
 repeat' split at h
 all_goals first | (cases h;omega) | (cases h)
theorem escN_ok (l:List UInt8) (i n j:Nat) (hi:i < l.length) (h:escN l i=.ok (n,j)):n < 65536/\sur n=false/\i+2<=j/\j<=l.length:=by
 unfold escN at h
 split at h
 ·rename_i hx
  have hlt:i+1 < l.length:=nx_lt (by rw [hx];decide)
  unfold numB at h
  cases hf:four l 4 (i+2) 0 with
  | error e=>rw [hf] at h;cases h
  | ok q =>
   obtain ⟨m,k⟩:=q
   rw [hf] at h
   have h2:(if sur m=true then Except.error (2,i) else Except.ok (m,k):Rs (Nat × Nat))=.ok (n,j):=h
   split at h2
   ·cases h2
   ·rename_i hs
    cases h2
    obtain ⟨h3,h4,h5⟩:=four_ok l 4 (i+2) 0 n j (by omega) hf
    refine ⟨by simpa using h5,by simpa using hs,by omega,h4⟩
 ·cases hc:escC (nx l (i+1)) with
  | none=>rw [hc] at h;cases h
  | some m =>
   rw [hc] at h
   cases h
   obtain ⟨h1,h2⟩:=escC_small _ _ hc
   have:=nx_lt h2
   refine ⟨by omega,decide_eq_false (by omega),by omega,by omega⟩
theorem wrt_len (n:Nat):(wrt n).length<=3:=by
 unfold wrt
 repeat' split
 all_goals simp
theorem seqN_ok (l:List UInt8) (i:Nat) (hi:i<=l.length):i+seqN l i<=l.length:=by
 have key:∀k lo hi',0<=lo->goesB l (i+k) lo hi'=true->i+k < l.length:=fun k lo hi' h0 h=>by
  have:=of_decide_eq_true h
  exact nx_lt (by omega)
 have hlo:0<=(if nx l i=224 then (160:Int) else if nx l i=240 then 144 else 128):=by
  repeat' split
  all_goals omega
 unfold seqN
 simp only []
 generalize (if nx l i=224 then (160:Int) else if nx l i=240 then 144 else 128)=lo at hlo ⊢
 generalize (if nx l i=237 then (159:Int) else if nx l i=244 then 143 else 191)=hi'
 split
 ·omega
 ·rename_i h0
  have hlt:i < l.length:=nx_lt (by omega)
  split
  ·omega
  split
  ·omega
  split
  ·omega
  ·rename_i h1
   have a1:=key 1 lo hi' hlo (by simpa using h1)
   split
   ·omega
   split
   ·omega
   ·rename_i h2
    have a2:=key 2 128 191 (by omega) (by simpa using h2)
    split
    ·omega
    split
    ·omega
    ·rename_i h3
     have a3:=key 3 128 191 (by omega) (by simpa using h3)
     omega
theorem str_step (l:List UInt8) (f i:Nat) (acc:List UInt8):str l (f+1) i acc =
  if nx l i=34 then .ok (acc,i+1)
  else if nx l i=92 then (match esc l i with | .error e=>.error e | .ok (b,j)=>str l f j (acc++b))
  else if nx l i=-1\/isBr (nx l i)=true then .error (2,i)
  else if seqN l i=0 then .error (2,i)
  else str l f (i+seqN l i) (acc++subT l i (seqN l i)):=rfl
theorem gb_bel {w w1 w2:World} {r:Option Nat} {B:Nat} (h:w.grownBy w1 r) (hB:w.heap.size<=B) (hb:Below B w1 w2):w.grownBy w2 r :=
 ⟨hb.os.trans h.os,hb.tape.trans h.tape,hb.output.trans h.output,Nat.le_trans h.size hb.size,fun k hk hn=>(hb.block k (by omega)).trans (h.block k hk hn)⟩
theorem Rd.bel {w w':World} {R:Nat} {s:ByteArray} {i T B:Nat} (h:Rd w R s i T) (hR:R < B) (hb:Below B w w'):Rd w' R s i T:=(hb.block R hR).trans h
theorem Rd.lt {w:World} {R:Nat} {s:ByteArray} {i T:Nat} (h:Rd w R s i T):R < w.heap.size:=(Array.getElem?_eq_some_iff.1 h).1
theorem tabs_grow {w w':World} {R g3 g4:Nat} (h:Lib.Utf8Tabs g3 g4 w) (h3:¬ R=g3) (h4:¬ R=g4) (hg:w.grownBy w' (some R)):Lib.Utf8Tabs g3 g4 w' :=
 ⟨fun c hc=>hg.cell (h.1 c hc) (by simp;exact fun e=>h3 e.symm),fun i hi=>⟨hg.cell (h.2 i hi).1 (by simp;exact fun e=>h4 e.symm),hg.cell (h.2 i hi).2 (by simp;exact fun e=>h4 e.symm)⟩⟩
end Go.Proofs.YtbgnflcebafjjaaGreatDoor
namespace Go.Proofs.YtbgnflcebafjjaaGreatDoor
open Go.RowKit Go.Maps Go.WideMaps Go.Joins
set_option linter.unusedVariables false
theorem own_block {w w':World} {B:Nat} {e:TypeId} {s:Nat} {v:Value} {n:Nat} {xs:List Value} (h:w.ownsRow B e s v n xs) (hb:∀g cur,v.ownBlock=some g->w.heap[g]?=some (.cells cur e (0,0))->w'.heap[g]?=w.heap[g]?):w'.ownsRow B e s v n xs:=by
 refine ⟨h.1,?_⟩
 rcases h.2 with h1 | ⟨g,cap,cur,rfl,h2,h3,h4⟩
 ·exact Or.inl h1
 ·exact Or.inr ⟨g,cap,cur,rfl,h2,(hb g cur rfl h3).trans h3,h4⟩
theorem own_typ {w:World} {B:Nat} {e:TypeId} {s:Nat} {v:Value} {n:Nat} {xs:List Value} (h:w.ownsRow B e s v n xs) {g:Nat} (hg:v.ownBlock=some g):B<=g/\∃cur,w.heap[g]?=some (.cells cur e (0,0)):=by
 rcases h.2 with ⟨rfl,_⟩ | ⟨g',cap,cur,rfl,h2,h3,h4⟩
 ·cases hg
 ·cases hg
  exact ⟨h2,cur,h3⟩
theorem ne_typ {w:World} {a b:Nat} {c1 c2:Array Value} {t1 t2:TypeId} {f1 f2:Nat × Nat} (h1:w.heap[a]?=some (.cells c1 t1 f1)) (h2:w.heap[b]?=some (.cells c2 t2 f2)) (h:¬ t1=t2):¬ a=b:=fun e=>by
 subst e
 rw [h1] at h2
 injection h2 with h2
 injection h2 with _ e2 _
 exact h e2
theorem ne_map {w:World} {a b:Nat} {c1:Array Value} {t1:TypeId} {f1:Nat × Nat} {es:Array MapEntry} {c:Nat} (h1:w.heap[a]?=some (.cells c1 t1 f1)) (h2:w.heap[b]?=some (.map es c)):¬ a=b:=fun e=>by
 subst e
 rw [h1] at h2
 cases h2
theorem blk_lt {w:World} {b:Nat} {o:Obj} (h:w.heap[b]?=some o):b < w.heap.size:=(Array.getElem?_eq_some_iff.1 h).1
structure TrD (w:World) (B T:Nat) (ns:List Tn) (now N c M:Nat) (xs:List Value) (ks:Nat->Value) (n:Nat) (f:Nat->List UInt8->Option (Nat × Bool)):Prop where
 blk:w.heap[T]?=some (.cells #[.slice (some ⟨N,0,none⟩) ns.length c,.map (some M),.int .i64 (now:Nat)] 64 (0,0))
 bT:B<=T
 row:w.ownsRow B 33 6 (.slice (some ⟨N,0,none⟩) ns.length c) ns.length xs
 cel:∀i (hi:i < ns.length),xs[i * 6]?=some (.int .i64 ns[i].kd)/\xs[i * 6+1]?=some (.string ⟨ns[i].ky.toArray⟩)/\xs[i * 6+2]?=some (.string ⟨ns[i].tx.toArray⟩)/\xs[i * 6+3]?=some (.int .i64 ns[i].nu)/\xs[i * 6+4]?=some (ks i)/\xs[i * 6+5]?=some (.int .i64 (ns[i].pl:Nat))
 kid:∀i (hi:i < ns.length),w.ownsRow B 3 1 (ks i) ns[i].ks.length (ns[i].ks.map fun q=>.int .i64 (q:Nat))
 apart:∀i j g,i < ns.length->j < ns.length->(ks i).ownBlock=some g->(ks j).ownBlock=some g->i=j
 map:HM w M n f
 bM:B<=M
section
variable {w w':World} {B T:Nat} {ns:List Tn} {now N c M:Nat} {xs:List Value} {ks:Nat->Value} {n:Nat} {f:Nat->List UInt8->Option (Nat × Bool)}
theorem TrD.rowT (h:TrD w B T ns now N c M xs ks n f):∃cur,w.heap[N]?=some (.cells cur 33 (0,0)):=(own_typ h.row rfl).2
theorem TrD.cells (h:TrD w B T ns now N c M xs ks n f):w.cell? ⟨T,0,none⟩=some (.slice (some ⟨N,0,none⟩) ns.length c)/\w.cell? ⟨T,1,none⟩=some (.map (some M))/\w.cell? ⟨T,2,none⟩=some (.int .i64 (now:Nat))/\∀k,w.frozen? ⟨T,k,none⟩=false :=
 ⟨by rw [Lib.cell_of_heap h.blk];rfl,by rw [Lib.cell_of_heap h.blk];rfl,by rw [Lib.cell_of_heap h.blk];rfl,fun k=>Lib.frozen_of_heap h.blk k⟩
theorem zero_off (g k:Nat):(⟨g,0,none⟩:Addr).add k=⟨g,k,none⟩:=by
 unfold Addr.add
 split
 ·rename_i h;rw [h]
 ·simp
theorem TrD.node (h:TrD w B T ns now N c M xs ks n f) (i:Nat) (hi:i < ns.length):w.cell? ⟨N,i * 6,none⟩=some (.int .i64 ns[i].kd)/\w.cell? ⟨N,i * 6+1,none⟩=some (.string ⟨ns[i].ky.toArray⟩)/\w.cell? ⟨N,i * 6+2,none⟩=some (.string ⟨ns[i].tx.toArray⟩)/\w.cell? ⟨N,i * 6+3,none⟩=some (.int .i64 ns[i].nu)/\w.cell? ⟨N,i * 6+4,none⟩=some (ks i)/\w.cell? ⟨N,i * 6+5,none⟩=some (.int .i64 (ns[i].pl:Nat))/\∀k,w.frozen? ⟨N,k,none⟩=false:=by
 obtain ⟨h0,h1,h2,h3,h4,h5⟩:=h.cel i hi
 have key:∀j u,xs[j]?=some u->w.cell? ⟨N,j,none⟩=some u:=fun j u hu=>by
  have:=h.row.cells (g:=N) rfl j u hu
  rw [zero_off] at this
  exact this
 obtain ⟨cur,hc⟩:=h.rowT
 exact ⟨key _ _ h0,key _ _ h1,key _ _ h2,key _ _ h3,key _ _ h4,key _ _ h5,fun k=>Lib.frozen_of_heap hc k⟩
def Keeps (w w':World):Prop:=(∀(b:Nat) (cs:Array Value) (t:TypeId) (fz:Nat × Nat),w.heap[b]?=some (.cells cs t fz)->(t=64\/t=33\/t=3)->w'.heap[b]?=w.heap[b]?)/\∀(b:Nat) (es:Array MapEntry) (c:Nat),w.heap[b]?=some (.map es c)->w'.heap[b]?=w.heap[b]?
theorem TrD.keeps (h:TrD w B T ns now N c M xs ks n f) (hk:Keeps w w'):TrD w' B T ns now N c M xs ks n f:=by
 refine ⟨(hk.1 _ _ _ _ h.blk (Or.inl rfl)).trans h.blk,h.bT,own_block h.row fun g cur _ hc=>hk.1 _ _ _ _ hc (Or.inr (Or.inl rfl)),h.cel,fun i hi=>own_block (h.kid i hi) fun g cur _ hc=>hk.1 _ _ _ _ hc (Or.inr (Or.inr rfl)),h.apart,?_,h.bM⟩
 obtain ⟨es,cc,hm⟩:=h.map.map
 exact h.map.block (hk.2 _ _ _ hm)
theorem keeps_gb (hg:w.grownBy w' none):Keeps w w':=⟨fun b cs t fz hb _=>hg.block b (blk_lt hb) (by simp),fun b es c hb=>hg.block b (blk_lt hb) (by simp)⟩
theorem keeps_R {R:Nat} {s:ByteArray} {i T':Nat} (h:Rd w R s i T') (hg:w.grownBy w' (some R)):Keeps w w' :=
 ⟨fun b cs t fz hb ht=>hg.block b (blk_lt hb) (by
  simp only [ne_eq,Option.some.injEq]
  refine ne_typ hb h ?_
  rcases ht with rfl | rfl | rfl <;> decide),fun b es c hb=>hg.block b (blk_lt hb) (by
  simp only [ne_eq,Option.some.injEq]
  exact fun e=>ne_map h hb e.symm)⟩
structure Fr (B:Nat) (w w':World):Prop where
 bel:Below B w w'
 oth:∀(b:Nat) (cs:Array Value) (t:TypeId) (fz:Nat × Nat),w.heap[b]?=some (.cells cs t fz)->¬ t=64->¬ t=33->¬ t=3->w'.heap[b]?=w.heap[b]?
theorem Fr.two {w1 w2:World} (h:Fr B w w1) (h':Fr B w1 w2):Fr B w w2 :=
 ⟨h.bel.trans h'.bel,fun b cs t fz hb h1 h2 h3=>by
  have e1:=h.oth b cs t fz hb h1 h2 h3
  exact (h'.oth b cs t fz (e1.trans hb) h1 h2 h3).trans e1⟩
theorem Fr.gb (hg:w.grownBy w' none) (hB:B<=w.heap.size):Fr B w w' :=
 ⟨⟨hg.os,hg.tape,hg.output,hg.size,fun k hk=>hg.block k (by omega) (by simp)⟩,fun b cs t fz hb _ _ _=>hg.block b (blk_lt hb) (by simp)⟩
theorem Fr.row {t:TypeId} {g:Nat} {cur:Array Value} {fz:Nat × Nat} (hg:w.grownBy w' (some g)) (hB:B<=w.heap.size) (hgB:B<=g) (hb:w.heap[g]?=some (.cells cur t fz)) (ht:t=64\/t=33\/t=3):Fr B w w' :=
 ⟨⟨hg.os,hg.tape,hg.output,hg.size,fun k hk=>hg.block k (by omega) (by simp;omega)⟩,fun b cs t' fz' hb' h1 h2 h3=>hg.block b (blk_lt hb') (by
  simp only [ne_eq,Option.some.injEq]
  refine ne_typ hb' hb ?_
  rcases ht with rfl | rfl | rfl
  ·exact h1
  ·exact h2
  ·exact h3)⟩
theorem Fr.mapd {M:Nat} {es:Array MapEntry} {c:Nat} (hg:w.grownBy w' (some M)) (hB:B<=w.heap.size) (hgB:B<=M) (hb:w.heap[M]?=some (.map es c)):Fr B w w' :=
 ⟨⟨hg.os,hg.tape,hg.output,hg.size,fun k hk=>hg.block k (by omega) (by simp;omega)⟩,fun b cs t' fz' hb' h1 h2 h3=>hg.block b (blk_lt hb') (by
  simp only [ne_eq,Option.some.injEq]
  exact ne_map hb' hb)⟩
theorem gb_setc (w:World) (g o:Nat) (v:Value):w.grownBy (w.setCell ⟨g,o,none⟩ v) (some g) :=
 ⟨rfl,rfl,rfl,by simp [World.setCell],fun k hk hn=>heap_setCell_other w _ k v (fun e=>hn (by rw [e]))⟩
theorem TrD.push (h:TrD w B T ns now N c M xs ks n f) {w1:World} {g cap L:Nat} (x:Tn) (hx:x.ks=[]) (hL:ns.length+1=L)
  (ho:w1.ownsRow B 33 6 (.slice (some ⟨g,0,none⟩) L cap) L (xs++[.int .i64 x.kd,.string ⟨x.ky.toArray⟩,.string ⟨x.tx.toArray⟩,.int .i64 x.nu,.slice none 0 0,.int .i64 (x.pl:Nat)])) (hg:w.grownBy w1 (some N)) :
  TrD (w1.setCell ⟨T,0,none⟩ (.slice (some ⟨g,0,none⟩) L cap)) B T (ns++[x]) now g cap M (xs++[.int .i64 x.kd,.string ⟨x.ky.toArray⟩,.string ⟨x.tx.toArray⟩,.int .i64 x.nu,.slice none 0 0,.int .i64 (x.pl:Nat)]) (fun i=>if i=ns.length then .slice none 0 0 else ks i) n f:=by
 obtain ⟨cur,hN⟩:=h.rowT
 have hT1:w1.heap[T]?=w.heap[T]?:=hg.block T (blk_lt h.blk) (by simp only [ne_eq,Option.some.injEq];exact ne_typ h.blk hN (by decide))
 have hb1:=hT1.trans h.blk
 obtain ⟨cg,hcg⟩:=(own_typ ho rfl).2
 have hxl:xs.length=ns.length * 6:=h.row.1
 have hlen:(ns++[x]).length=L:=by simp [hL]
 have hset:=block_setCell (i:=0) hb1 (.slice (some ⟨g,0,none⟩) L cap)
 refine ⟨?_,h.bT,?_,?_,?_,?_,?_,h.bM⟩
 ·rw [hlen];exact hset
 ·rw [hlen]
  exact own_block ho fun g' cur' _ hc=>heap_setCell_other _ _ _ _ (ne_typ hc hb1 (by decide))
 ·intro i hi
  rw [hlen] at hi
  by_cases he:i=ns.length
  ·subst he
   simp only [List.getElem_append_right (Nat.le_refl _),Nat.sub_self,List.getElem_cons_zero]
   rw [<-hxl]
   refine ⟨?_,?_,?_,?_,?_,?_⟩
   ·rw [List.getElem?_append_right (by omega),Nat.sub_self];rfl
   ·rw [List.getElem?_append_right (by omega),show xs.length+1 - xs.length=1 by omega];rfl
   ·rw [List.getElem?_append_right (by omega),show xs.length+2 - xs.length=2 by omega];rfl
   ·rw [List.getElem?_append_right (by omega),show xs.length+3 - xs.length=3 by omega];rfl
   ·rw [List.getElem?_append_right (by omega),show xs.length+4 - xs.length=4 by omega];simp
   ·rw [List.getElem?_append_right (by omega),show xs.length+5 - xs.length=5 by omega];rfl
  ·have hlt:i < ns.length:=by omega
   obtain ⟨h0,h1,h2,h3,h4,h5⟩:=h.cel i hlt
   simp only [List.getElem_append_left hlt,if_neg he]
   refine ⟨?_,?_,?_,?_,?_,?_⟩
   all_goals (rw [List.getElem?_append_left (by omega)];assumption)
 ·intro i hi
  rw [hlen] at hi
  by_cases he:i=ns.length
  ·subst he
   simp only [List.getElem_append_right (Nat.le_refl _),Nat.sub_self,List.getElem_cons_zero,hx,if_true]
   exact ⟨rfl,Or.inl ⟨rfl,rfl⟩⟩
  ·have hlt:i < ns.length:=by omega
   simp only [List.getElem_append_left hlt,if_neg he]
   refine own_block (h.kid i hlt) fun g' cur' _ hc=>?_
   have e1:w1.heap[g']?=w.heap[g']?:=hg.block g' (blk_lt hc) (by simp only [ne_eq,Option.some.injEq];exact ne_typ hc hN (by decide))
   exact (heap_setCell_other _ _ _ _ (ne_typ (e1.trans hc) hb1 (by decide))).trans e1
 ·intro i j g' hi hj h1 h2
  rw [hlen] at hi hj
  by_cases hei:i=ns.length
  ·rw [if_pos hei] at h1;cases h1
  ·by_cases hej:j=ns.length
   ·rw [if_pos hej] at h2;cases h2
   ·rw [if_neg hei] at h1
    rw [if_neg hej] at h2
    exact h.apart i j g' (by omega) (by omega) h1 h2
 ·obtain ⟨es,cc,hm⟩:=h.map.map
  have e1:w1.heap[M]?=w.heap[M]?:=hg.block M (blk_lt hm) (by simp only [ne_eq,Option.some.injEq];exact fun e=>ne_map hN hm e.symm)
  exact h.map.block ((heap_setCell_other _ _ _ _ (fun e=>ne_map hb1 (e1.trans hm) e.symm)).trans e1)
theorem TrD.kidOwn (h:TrD w B T ns now N c M xs ks n f) {i:Nat} (hi:i < ns.length) {g:Nat} (hg:(ks i).ownBlock=some g):∃cur,w.heap[g]?=some (.cells cur 3 (0,0)):=(own_typ (h.kid i hi) hg).2
theorem TrD.kidp (h:TrD w B T ns now N c M xs ks n f) {w1:World} {g cap L:Nat} (p:Nat) (hp:p < ns.length) (q:Nat) (hL:ns[p].ks.length+1=L)
  (ho:w1.ownsRow B 3 1 (.slice (some ⟨g,0,none⟩) L cap) L ((ns[p].ks.map fun q=>.int .i64 (q:Nat))++[.int .i64 (q:Nat)])) (hg:w.grownBy w1 (ks p).ownBlock) (hat:(ks p).ownBlock=some g\/w.heap.size<=g) :
  TrD (w1.setCell ⟨N,p * 6+4,none⟩ (.slice (some ⟨g,0,none⟩) L cap)) B T (ns.set p { ns[p] with ks:=ns[p].ks++[q] }) now N c M (xs.set (p * 6+4) (.slice (some ⟨g,0,none⟩) L cap)) (fun i=>if i=p then .slice (some ⟨g,0,none⟩) L cap else ks i) n f:=by
 obtain ⟨cur,hN⟩:=h.rowT
 have hneP:∀(b:Nat) (cs:Array Value) (t:TypeId) (fz:Nat × Nat),w.heap[b]?=some (.cells cs t fz)->¬ t=3->w1.heap[b]?=w.heap[b]?:=fun b cs t fz hb ht=>hg.block b (blk_lt hb) (fun e=>by
  obtain ⟨cc,hcc⟩:=h.kidOwn hp e.symm
  exact ne_typ hb hcc ht rfl)
 have hN1:=hneP _ _ _ _ hN (by decide)
 have hT1:=hneP _ _ _ _ h.blk (by decide)
 have hxl:xs.length=ns.length * 6:=h.row.1
 have hlen:(ns.set p { ns[p] with ks:=ns[p].ks++[q] }).length=ns.length:=by simp
 obtain ⟨cg,hcg⟩:=(own_typ ho rfl).2
 refine ⟨?_,h.bT,?_,?_,?_,?_,?_,h.bM⟩
 ·rw [hlen]
  exact (heap_setCell_other _ _ _ _ (ne_typ (hT1.trans h.blk) (hN1.trans hN) (by decide))).trans (hT1.trans h.blk)
 ·rw [hlen]
  have r1:w1.ownsRow B 33 6 (.slice (some ⟨N,0,none⟩) ns.length c) ns.length xs:=own_block h.row fun g' cur' hh hc=>hneP _ _ _ _ hc (by decide)
  refine ⟨by rw [List.length_set];exact r1.1,?_⟩
  rcases r1.2 with ⟨e1,_⟩ | ⟨g',cap',cu,e1,hb,hgg,hn,hm,hs,ht⟩
  ·cases e1
  ·cases e1
   refine Or.inr ⟨N,c,cu.setIfInBounds (p * 6+4) _,rfl,hb,block_setCell hgg _,hn,hm,by simpa using hs,?_⟩
   rw [Array.toList_setIfInBounds,List.take_set,ht]
 ·intro i hi
  rw [hlen] at hi
  obtain ⟨h0,h1,h2,h3,h4,h5⟩:=h.cel i hi
  have keep:∀j,j < xs.length->¬ j=p * 6+4->(xs.set (p * 6+4) (.slice (some ⟨g,0,none⟩) L cap))[j]?=xs[j]?:=fun j hj hne=>List.getElem?_set_ne (fun e=>hne e.symm)
  by_cases he:i=p
  ·subst he
   simp only [List.getElem_set_self,if_true]
   refine ⟨(keep _ (by omega) (by omega)).trans h0,(keep _ (by omega) (by omega)).trans h1,(keep _ (by omega) (by omega)).trans h2,(keep _ (by omega) (by omega)).trans h3,List.getElem?_set_self (by omega),(keep _ (by omega) (by omega)).trans h5⟩
  ·have hpi:¬ p=i:=fun e=>he e.symm
   simp only [List.getElem_set_ne hpi,if_neg he]
   refine ⟨(keep _ (by omega) (by omega)).trans h0,(keep _ (by omega) (by omega)).trans h1,(keep _ (by omega) (by omega)).trans h2,(keep _ (by omega) (by omega)).trans h3,(keep _ (by omega) (by omega)).trans h4,(keep _ (by omega) (by omega)).trans h5⟩
 ·intro i hi
  rw [hlen] at hi
  have hs:∀(g':Nat) (cur':Array Value),w1.heap[g']?=some (.cells cur' 3 (0,0))->(w1.setCell ⟨N,p * 6+4,none⟩ (.slice (some ⟨g,0,none⟩) L cap)).heap[g']?=w1.heap[g']?:=fun g' cur' hc=>heap_setCell_other _ _ _ _ (ne_typ hc (hN1.trans hN) (by decide))
  by_cases he:i=p
  ·subst he
   simp only [List.getElem_set_self,if_true]
   rw [List.map_append,List.length_append,List.length_singleton,hL]
   exact own_block ho fun g' cur' _ hc=>hs g' cur' hc
  ·have hpi:¬ p=i:=fun e=>he e.symm
   simp only [List.getElem_set_ne hpi,if_neg he]
   refine own_block (h.kid i hi) fun g' cur' hgo hc=>?_
   have e1:w1.heap[g']?=w.heap[g']?:=hg.block g' (blk_lt hc) (fun e=>he (h.apart i p g' hi hp hgo e.symm))
   exact (hs g' cur' (e1.trans hc)).trans e1
 ·intro i j g' hi hj h1 h2
  rw [hlen] at hi hj
  have fresh:∀k,k < ns.length->¬ k=p->(ks k).ownBlock=some g->False:=fun k hk hne e=>by
   rcases hat with e2 | e2
   ·exact hne (h.apart k p g hk hp e e2)
   ·obtain ⟨cc,hcc⟩:=h.kidOwn hk e
    have:=blk_lt hcc
    omega
  by_cases hei:i=p
  ·by_cases hej:j=p
   ·rw [hei,hej]
   ·rw [if_pos hei] at h1
    rw [if_neg hej] at h2
    cases h1
    exact (fresh j hj hej h2).elim
  ·by_cases hej:j=p
   ·rw [if_pos hej] at h2
    rw [if_neg hei] at h1
    cases h2
    exact (fresh i hi hei h1).elim
   ·rw [if_neg hei] at h1
    rw [if_neg hej] at h2
    exact h.apart i j g' hi hj h1 h2
 ·obtain ⟨es,cc,hm⟩:=h.map.map
  have e1:w1.heap[M]?=w.heap[M]?:=hg.block M (blk_lt hm) (fun e=>by
   obtain ⟨cc,hcc⟩:=h.kidOwn hp e.symm
   exact ne_map hcc hm rfl)
  exact h.map.block ((heap_setCell_other _ _ _ _ (fun e=>ne_map (hN1.trans hN) (e1.trans hm) e.symm)).trans e1)
theorem TrD.mapd (h:TrD w B T ns now N c M xs ks n f) {n':Nat} {f':Nat->List UInt8->Option (Nat × Bool)} (hm:HM w' M n' f') (hg:w.grownBy w' (some M)):TrD w' B T ns now N c M xs ks n' f':=by
 obtain ⟨es,cc,hm0⟩:=h.map.map
 have hb:∀(b:Nat) (cs:Array Value) (t:TypeId) (fz:Nat × Nat),w.heap[b]?=some (.cells cs t fz)->w'.heap[b]?=w.heap[b]?:=fun b cs t fz hb=>hg.block b (blk_lt hb) (by simp only [ne_eq,Option.some.injEq];exact ne_map hb hm0)
 exact ⟨(hb _ _ _ _ h.blk).trans h.blk,h.bT,own_block h.row fun g cur _ hc=>hb _ _ _ _ hc,h.cel,fun i hi=>own_block (h.kid i hi) fun g cur _ hc=>hb _ _ _ _ hc,h.apart,hm,h.bM⟩
theorem TrD.hand (h:TrD w B T ns now N c M xs ks n f) (m:Nat):TrD (w.setCell ⟨T,2,none⟩ (.int .i64 (m:Nat))) B T ns m N c M xs ks n f:=by
 have hb:∀(b:Nat) (cs:Array Value) (t:TypeId) (fz:Nat × Nat),w.heap[b]?=some (.cells cs t fz)->¬ t=64->(w.setCell ⟨T,2,none⟩ (.int .i64 (m:Nat))).heap[b]?=w.heap[b]?:=fun b cs t fz hb ht=>heap_setCell_other _ _ _ _ (ne_typ hb h.blk ht)
 refine ⟨block_setCell (i:=2) h.blk _,h.bT,own_block h.row fun g cur _ hc=>hb _ _ _ _ hc (by decide),h.cel,fun i hi=>own_block (h.kid i hi) fun g cur _ hc=>hb _ _ _ _ hc (by decide),h.apart,?_,h.bM⟩
 obtain ⟨es,cc,hm⟩:=h.map.map
 exact h.map.block (heap_setCell_other _ _ _ _ (fun e=>ne_map h.blk hm e.symm))
theorem TrD.cellSet (h:TrD w B T ns now N c M xs ks n f) (q o:Nat) (v:Value) (x:Tn) (hq:q < ns.length) (ho:o < 6) (h4:¬ o=4) (hk:x.ks=ns[q].ks)
  (hv:∀j u,(if j=o then some v else ([.int .i64 ns[q].kd,.string ⟨ns[q].ky.toArray⟩,.string ⟨ns[q].tx.toArray⟩,.int .i64 ns[q].nu,ks q,.int .i64 (ns[q].pl:Nat)]:List Value)[j]?)=some u->([.int .i64 x.kd,.string ⟨x.ky.toArray⟩,.string ⟨x.tx.toArray⟩,.int .i64 x.nu,ks q,.int .i64 (x.pl:Nat)]:List Value)[j]?=some u) :
  TrD (w.setCell ⟨N,q * 6+o,none⟩ v) B T (ns.set q x) now N c M (xs.set (q * 6+o) v) ks n f:=by
 obtain ⟨cur,hN⟩:=h.rowT
 have hb:∀(b:Nat) (cs:Array Value) (t:TypeId) (fz:Nat × Nat),w.heap[b]?=some (.cells cs t fz)->¬ t=33->(w.setCell ⟨N,q * 6+o,none⟩ v).heap[b]?=w.heap[b]?:=fun b cs t fz hb ht=>heap_setCell_other _ _ _ _ (ne_typ hb hN ht)
 have hxl:xs.length=ns.length * 6:=h.row.1
 have hlen:(ns.set q x).length=ns.length:=by simp
 refine ⟨?_,h.bT,?_,?_,?_,?_,?_,h.bM⟩
 ·rw [hlen];exact (hb _ _ _ _ h.blk (by decide)).trans h.blk
 ·rw [hlen]
  refine ⟨by rw [List.length_set];exact h.row.1,?_⟩
  rcases h.row.2 with ⟨e1,_⟩ | ⟨g',cap',cu,e1,hb,hgg,hn,hm,hs,ht⟩
  ·cases e1
  ·cases e1
   refine Or.inr ⟨N,c,cu.setIfInBounds (q * 6+o) v,rfl,hb,block_setCell hgg _,hn,hm,by simpa using hs,?_⟩
   rw [Array.toList_setIfInBounds,List.take_set,ht]
 ·intro i hi
  rw [hlen] at hi
  obtain ⟨h0,h1,h2,h3,h4',h5⟩:=h.cel i hi
  have keep:∀j,¬ j=q * 6+o->(xs.set (q * 6+o) v)[j]?=xs[j]?:=fun j hne=>List.getElem?_set_ne (fun e=>hne e.symm)
  by_cases he:i=q
  ·subst he
   simp only [List.getElem_set_self]
   have get:∀j u,j < 6->([.int .i64 ns[i].kd,.string ⟨ns[i].ky.toArray⟩,.string ⟨ns[i].tx.toArray⟩,.int .i64 ns[i].nu,ks i,.int .i64 (ns[i].pl:Nat)]:List Value)[j]?=some u->xs[i * 6+j]?=some u:=fun j u hj hu=>by
    match j,hj,hu with
    | 0,_,hu=>cases hu;exact h0
    | 1,_,hu=>cases hu;exact h1
    | 2,_,hu=>cases hu;exact h2
    | 3,_,hu=>cases hu;exact h3
    | 4,_,hu=>cases hu;exact h4'
    | 5,_,hu=>cases hu;exact h5
   have main:∀j (hj:j < 6),∀u,(xs.set (i * 6+o) v)[i * 6+j]?=some u->([.int .i64 x.kd,.string ⟨x.ky.toArray⟩,.string ⟨x.tx.toArray⟩,.int .i64 x.nu,ks i,.int .i64 (x.pl:Nat)]:List Value)[j]?=some u:=fun j hj u hu=>by
    apply hv j u
    by_cases hjo:j=o
    ·subst hjo
     rw [List.getElem?_set_self (by omega)] at hu
     rw [if_pos rfl];exact hu
    ·rw [keep _ (by omega)] at hu
     rw [if_neg hjo]
     have hlt:j < ([.int .i64 ns[i].kd,.string ⟨ns[i].ky.toArray⟩,.string ⟨ns[i].tx.toArray⟩,.int .i64 ns[i].nu,ks i,.int .i64 (ns[i].pl:Nat)]:List Value).length:=hj
     have:=get j _ hj (List.getElem?_eq_getElem hlt)
     rw [this] at hu
     rw [List.getElem?_eq_getElem hlt];exact hu
   have has:∀j,j < 6->∃u,(xs.set (i * 6+o) v)[i * 6+j]?=some u:=fun j hj=>⟨_,List.getElem?_eq_getElem (by rw [List.length_set];omega)⟩
   have fin:∀j (hj:j < 6),(xs.set (i * 6+o) v)[i * 6+j]?=([.int .i64 x.kd,.string ⟨x.ky.toArray⟩,.string ⟨x.tx.toArray⟩,.int .i64 x.nu,ks i,.int .i64 (x.pl:Nat)]:List Value)[j]?:=fun j hj=>by
    obtain ⟨u,hu⟩:=has j hj
    rw [hu,main j hj u hu]
   exact ⟨fin 0 (by omega),fin 1 (by omega),fin 2 (by omega),fin 3 (by omega),fin 4 (by omega),fin 5 (by omega)⟩
  ·have hqi:¬ q=i:=fun e=>he e.symm
   simp only [List.getElem_set_ne hqi]
   exact ⟨(keep _ (by omega)).trans h0,(keep _ (by omega)).trans h1,(keep _ (by omega)).trans h2,(keep _ (by omega)).trans h3,(keep _ (by omega)).trans h4',(keep _ (by omega)).trans h5⟩
 ·intro i hi
  rw [hlen] at hi
  by_cases he:i=q
  ·subst he
   simp only [List.getElem_set_self,hk]
   exact own_block (h.kid i hq) fun g cur _ hc=>hb _ _ _ _ hc (by decide)
  ·have hqi:¬ q=i:=fun e=>he e.symm
   simp only [List.getElem_set_ne hqi]
   exact own_block (h.kid i hi) fun g cur _ hc=>hb _ _ _ _ hc (by decide)
 ·intro i j g' hi hj
  rw [hlen] at hi hj
  exact h.apart i j g' hi hj
 ·obtain ⟨es,cc,hm⟩:=h.map.map
  exact h.map.block (heap_setCell_other _ _ _ _ (fun e=>ne_map hN hm e.symm))
end
def Tr (w:World) (B T:Nat) (ns:List Tn) (own:List Nat) (now:Nat):Prop:=∃N c M xs ks,TrD w B T ns now N c M xs ks (ns.length+own.length) (hold ns own)
end Go.Proofs.YtbgnflcebafjjaaGreatDoor
