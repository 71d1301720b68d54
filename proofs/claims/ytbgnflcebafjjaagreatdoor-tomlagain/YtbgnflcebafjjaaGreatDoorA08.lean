import Derived.Shelf.Strconv.AtoiAll
import Derived.Test.YtbgnflcebafjjaaGreatDoorProg
import Derived.Test.YtbgnflcebafjjaaGreatDoorA02
import Derived.Lib.AtoiTie
import Derived.Deep.RegionHeld3
import Derived.Test.YtbgnflcebafjjaaGreatDoorA07
namespace Go.Proofs
open Go.Shelf
def Tryz.lays172_ren:Go.Shelf.Ren:=⟨fun | 129=>135 | 171=>93 | 172=>121 | 205=>169 | 243=>115 | 244=>142 | 245=>143 | 246=>138 | 247=>158 | 279=>159 | 280=>160 | 281=>161 | 282=>162 | 283=>151 | 284=>152 | 285=>153 | 286=>154 | 287=>168 | 316=>120 | 317=>164 | 318=>165 | 319=>166 | 320=>167 | 321=>172 | 322=>173 | 337=>170 | 338=>171 | n=>n,fun | 22=>41 | 27=>155 | 28=>31 | 31=>108 | 34=>54 | 35=>157 | 37=>74 | 40=>212 | 41=>71 | 42=>158 | 43=>156 | 46=>175 | 47=>174 | 48=>200 | 49=>258 | 51=>193 | 52=>192 | 53=>195 | 54=>194 | 55=>177 | 69=>87 | 70=>73 | 71=>75 | 72=>76 | 73=>79 | 74=>42 | 75=>43 | 76=>118 | 77=>119 | 78=>121 | 79=>180 | 80=>85 | 81=>90 | 83=>127 | 84=>196 | 85=>218 | 86=>219 | 94=>125 | 104=>34 | 105=>181 | 106=>182 | 108=>233 | 111=>91 | 112=>159 | 114=>211 | 119=>213 | 126=>198 | 127=>126 | 128=>199 | 131=>190 | 137=>214 | 138=>215 | 139=>216 | 143=>235 | 144=>236 | 145=>237 | 164=>93 | 165=>176 | 167=>217 | 168=>220 | 169=>221 | 170=>222 | 171=>207 | 172=>208 | 173=>209 | 174=>210 | 175=>229 | 176=>230 | 182=>185 | 183=>186 | 209=>231 | 210=>232 | 211=>226 | 212=>227 | 213=>228 | 214=>234 | 218=>201 | 219=>202 | 220=>203 | 222=>205 | 228=>223 | 229=>224 | 232=>238 | 233=>239 | 238=>240 | 239=>241 | 240=>242 | 241=>243 | 242=>244 | 243=>246 | 244=>101 | 245=>247 | 246=>248 | 247=>249 | 248=>250 | 249=>251 | n=>n,fun | 1=>6 | 3=>7 | 4=>8 | 15=>10 | 16=>11 | 17=>9 | 18=>12 | 19=>13 | n=>n⟩
set_option maxRecDepth 100000 in
theorem Tryz.lays172:Go.Proofs.LaysC.n172 Tryz.prog Tryz.lays172_ren:={
 mixed:=by kernel_rfl
 f129:=Tryz.func135.trans (congrArg some (by kernel_rfl))
 f171:=Tryz.func93.trans (congrArg some (by kernel_rfl))
 f172:=Tryz.func121.trans (congrArg some (by kernel_rfl))
 f205:=Tryz.func169.trans (congrArg some (by kernel_rfl))
 f243:=Tryz.func115.trans (congrArg some (by kernel_rfl))
 f244:=Tryz.func142.trans (congrArg some (by kernel_rfl))
 f245:=Tryz.func143.trans (congrArg some (by kernel_rfl))
 f246:=Tryz.func138.trans (congrArg some (by kernel_rfl))
 f247:=Tryz.func158.trans (congrArg some (by kernel_rfl))
 f279:=Tryz.func159.trans (congrArg some (by kernel_rfl))
 f280:=Tryz.func160.trans (congrArg some (by kernel_rfl))
 f281:=Tryz.func161.trans (congrArg some (by kernel_rfl))
 f282:=Tryz.func162.trans (congrArg some (by kernel_rfl))
 f283:=Tryz.func151.trans (congrArg some (by kernel_rfl))
 f284:=Tryz.func152.trans (congrArg some (by kernel_rfl))
 f285:=Tryz.func153.trans (congrArg some (by kernel_rfl))
 f286:=Tryz.func154.trans (congrArg some (by kernel_rfl))
 f287:=Tryz.func168.trans (congrArg some (by kernel_rfl))
 f316:=Tryz.func120.trans (congrArg some (by kernel_rfl))
 f317:=Tryz.func164.trans (congrArg some (by kernel_rfl))
 f318:=Tryz.func165.trans (congrArg some (by kernel_rfl))
 f319:=Tryz.func166.trans (congrArg some (by kernel_rfl))
 f320:=Tryz.func167.trans (congrArg some (by kernel_rfl))
 f321:=Tryz.func172.trans (congrArg some (by kernel_rfl))
 f322:=Tryz.func173.trans (congrArg some (by kernel_rfl))
 f337:=Tryz.func170.trans (congrArg some (by kernel_rfl))
 f338:=Tryz.func171.trans (congrArg some (by kernel_rfl))
 t0:=Tryz.underlying0
 a0:=Tryz.isAgg0
 z0:=Tryz.sizeOf0
 v0:=Tryz.zeroValue0
 t2:=Tryz.underlying2
 a2:=Tryz.isAgg2
 z2:=Tryz.sizeOf2
 v2:=Tryz.zeroValue2
 t3:=Tryz.underlying3
 a3:=Tryz.isAgg3
 z3:=Tryz.sizeOf3
 v3:=Tryz.zeroValue3
 t4:=Tryz.underlying4
 a4:=Tryz.isAgg4
 z4:=Tryz.sizeOf4
 v4:=Tryz.zeroValue4
 t5:=Tryz.underlying5
 a5:=Tryz.isAgg5
 z5:=Tryz.sizeOf5
 v5:=Tryz.zeroValue5
 t9:=Tryz.underlying9
 a9:=Tryz.isAgg9
 z9:=Tryz.sizeOf9
 v9:=Tryz.zeroValue9
 t20:=Tryz.underlying20
 a20:=Tryz.isAgg20
 z20:=Tryz.sizeOf20
 v20:=Tryz.zeroValue20
 t21:=Tryz.underlying21
 a21:=Tryz.isAgg21
 z21:=Tryz.sizeOf21
 v21:=Tryz.zeroValue21
 t37:=Tryz.underlying74
 a37:=Tryz.isAgg74
 z37:=Tryz.sizeOf74
 v37:=Tryz.zeroValue74
 t46:=Tryz.underlying175
 a46:=Tryz.isAgg175
 z46:=Tryz.sizeOf175
 v46:=Tryz.zeroValue175
 t51:=Tryz.underlying193
 a51:=Tryz.isAgg193
 z51:=Tryz.sizeOf193
 v51:=Tryz.zeroValue193
 t53:=Tryz.underlying195
 a53:=Tryz.isAgg195
 z53:=Tryz.sizeOf195
 v53:=Tryz.zeroValue195
 t75:=Tryz.underlying43
 a75:=Tryz.isAgg43
 z75:=Tryz.sizeOf43
 v75:=Tryz.zeroValue43
 t76:=Tryz.underlying118
 a76:=Tryz.isAgg118
 z76:=Tryz.sizeOf118
 v76:=Tryz.zeroValue118
 t85:=Tryz.underlying218
 a85:=Tryz.isAgg218
 z85:=Tryz.sizeOf218
 v85:=Tryz.zeroValue218
 t127:=Tryz.underlying126
 a127:=Tryz.isAgg126
 z127:=Tryz.sizeOf126
 v127:=Tryz.zeroValue126
 t143:=Tryz.underlying235
 a143:=Tryz.isAgg235
 z143:=Tryz.sizeOf235
 v143:=Tryz.zeroValue235
 t145:=Tryz.underlying237
 a145:=Tryz.isAgg237
 z145:=Tryz.sizeOf237
 v145:=Tryz.zeroValue237
 t167:=Tryz.underlying217
 a167:=Tryz.isAgg217
 z167:=Tryz.sizeOf217
 v167:=Tryz.zeroValue217
 t168:=Tryz.underlying220
 a168:=Tryz.isAgg220
 z168:=Tryz.sizeOf220
 v168:=Tryz.zeroValue220
 t171:=Tryz.underlying207
 a171:=Tryz.isAgg207
 z171:=Tryz.sizeOf207
 v171:=Tryz.zeroValue207
 t173:=Tryz.underlying209
 a173:=Tryz.isAgg209
 z173:=Tryz.sizeOf209
 v173:=Tryz.zeroValue209
 t175:=Tryz.underlying229
 a175:=Tryz.isAgg229
 z175:=Tryz.sizeOf229
 v175:=Tryz.zeroValue229
 t210:=Tryz.underlying232
 a210:=Tryz.isAgg232
 z210:=Tryz.sizeOf232
 v210:=Tryz.zeroValue232
 t212:=Tryz.underlying227
 a212:=Tryz.isAgg227
 z212:=Tryz.sizeOf227
 v212:=Tryz.zeroValue227
 t213:=Tryz.underlying228
 a213:=Tryz.isAgg228
 z213:=Tryz.sizeOf228
 t232:=Tryz.underlying238
 a232:=Tryz.isAgg238
 z232:=Tryz.sizeOf238
 v232:=Tryz.zeroValue238
 t233:=Tryz.underlying239
 a233:=Tryz.isAgg239
 z233:=Tryz.sizeOf239
 v233:=Tryz.zeroValue239
 g15:=by kernel_rfl
 g16:=by kernel_rfl
 g17:=by kernel_rfl
 g18:=by kernel_rfl
 g19:=by kernel_rfl
 t80:=Tryz.underlying85
 a80:=Tryz.isAgg85
 z80:=Tryz.sizeOf85
 v80:=Tryz.zeroValue85
 i0:=by kernel_rfl
 i2:=by kernel_rfl
 i3:=by kernel_rfl
 i4:=by kernel_rfl
 i5:=by kernel_rfl
 i9:=by kernel_rfl
 i20:=by kernel_rfl
 i21:=by kernel_rfl
 i37:=by kernel_rfl
 i46:=by kernel_rfl
 i51:=by kernel_rfl
 i53:=by kernel_rfl
 i75:=by kernel_rfl
 i76:=by kernel_rfl
 i80:=by kernel_rfl
 i85:=by kernel_rfl
 i127:=by kernel_rfl
 i143:=by kernel_rfl
 i145:=by kernel_rfl
 i167:=by kernel_rfl
 i168:=by kernel_rfl
 i171:=by kernel_rfl
 i173:=by kernel_rfl
 i175:=by kernel_rfl
 i210:=by kernel_rfl
 i212:=by kernel_rfl
 i232:=by kernel_rfl
 i233:=by kernel_rfl
 m15:=by kernel_rfl
 m16:=by kernel_rfl
 m17:=by kernel_rfl
 m18:=by kernel_rfl
 m19:=by kernel_rfl
 c0:=by kernel_rfl
 c2:=by kernel_rfl
 c3:=by kernel_rfl
 c4:=by kernel_rfl
 c5:=by kernel_rfl
 c9:=by kernel_rfl
 c20:=by kernel_rfl
 c21:=by kernel_rfl
 c37:=by kernel_rfl
 c46:=by kernel_rfl
 c51:=by kernel_rfl
 c53:=by kernel_rfl
 c75:=by kernel_rfl
 c76:=by kernel_rfl
 c80:=by kernel_rfl
 c85:=by kernel_rfl
 c127:=by kernel_rfl
 c143:=by kernel_rfl
 c145:=by kernel_rfl
 c167:=by kernel_rfl
 c168:=by kernel_rfl
 c171:=by kernel_rfl
 c173:=by kernel_rfl
 c175:=by kernel_rfl
 c210:=by kernel_rfl
 c212:=by kernel_rfl
 c213:=by kernel_rfl
 c232:=by kernel_rfl
 c233:=by kernel_rfl }
end Go.Proofs
namespace Go.Proofs.YtbgnflcebafjjaaGreatDoor
open Go.RowKit Go.Joins
set_option linter.unusedVariables false
theorem dec_dig:∀(d:List UInt8) (n:Nat),(∀c ∈ d,isDg (c.toNat:Int)=true)->Lib.decFrom n d=some (digN d n):=by
 intro d
 induction d with
 | nil=>intro n _;rfl
 | cons c r ih =>
  intro n h
  have hc:=of_decide_eq_true (h c (by simp))
  have h1:48<=c.toNat/\c.toNat<=57:=by omega
  have e:Lib.digitVal c=some (c.toNat - 48):=by unfold Lib.digitVal;rw [if_pos h1]
  have:=ih (10 * n+(c.toNat - 48)) (fun x hx=>h x (by simp [hx]))
  show (match Lib.digitVal c with | some d=>Lib.decFrom (n * 10+d) r | none=>none)=some (digN r (10 * n+(c.toNat - 48)))
  rw [e,<-this,Nat.mul_comm 10 n]
theorem decNat_dig (d:List UInt8) (hd:d ≠ []) (h:∀c ∈ d,isDg (c.toNat:Int)=true):Lib.decNat d=some (digN d 0):=by
 unfold Lib.decNat
 cases d with
 | nil=>exact absurd rfl hd
 | cons c r=>simpa using dec_dig (c :: r) 0 h
theorem atoi_plain (d:List UInt8) (hd:d ≠ []) (hl:d.length<=18) (h:∀c ∈ d,isDg (c.toNat:Int)=true):Lib.atoiAll d=.ok (digN d 0:Int):=by
 cases d with
 | nil=>exact absurd rfl hd
 | cons c r =>
  have hc:=of_decide_eq_true (h c (by simp))
  rw [Lib.atoiAll_plain c r (by omega) (by omega),Lib.signless_short hl,decNat_dig _ hd h]
  rfl
theorem atoi_plus (d:List UInt8) (hd:d ≠ []) (hl:d.length<=18) (h:∀c ∈ d,isDg (c.toNat:Int)=true):Lib.atoiAll (43 :: d)=.ok (digN d 0:Int):=by
 rw [Lib.atoiAll_plus,Lib.signless_short hl,decNat_dig _ hd h]
 rfl
theorem atoi_minus (d:List UInt8) (hd:d ≠ []) (hl:d.length<=18) (h:∀c ∈ d,isDg (c.toNat:Int)=true):Lib.atoiAll (45 :: d)=.ok (-(digN d 0:Int)):=by
 rw [Lib.atoiAll_minus,Lib.signed_short hl,decNat_dig _ hd h]
 rfl
theorem toR_all (p:Int->Bool) (l:List UInt8) (i:Nat):∀c ∈ subT l i (toR p l i - i),p (c.toNat:Int)=true:=by
 intro c hc
 unfold subT toR runN at hc
 rw [Nat.add_sub_cancel_left] at hc
 have e:(l.drop i).take ((l.drop i).takeWhile (fun c=>p (c.toNat:Int))).length=(l.drop i).takeWhile (fun c=>p (c.toNat:Int)):=by
  have:=List.takeWhile_prefix (fun c:UInt8=>p (c.toNat:Int)) (l:=l.drop i)
  exact (List.prefix_iff_eq_take.1 this).symm
 rw [e] at hc
 exact (List.all_takeWhile (p:=fun c:UInt8=>p (c.toNat:Int)) (l:=l.drop i) |> List.all_eq_true.1) c hc
theorem subT_len (l:List UInt8) (i k:Nat) (h:i+k<=l.length):(subT l i k).length=k:=by
 unfold subT;rw [List.length_take,List.length_drop];omega
theorem subT_cons (l:List UInt8) (i k:Nat) (h:i < l.length):subT l i (k+1)=l[i] :: subT l (i+1) k:=by
 unfold subT
 rw [List.drop_eq_getElem_cons h,List.take_succ_cons]
theorem atoi_int (l:List UInt8) (i a j:Nat) (hj:j<=l.length) (haj:a < j) (hall:∀c ∈ subT l a (j - a),isDg (c.toNat:Int)=true) (h18:j - a<=18)
  (h:(isDg (nx l i)=true/\a=i)\/((nx l i=43\/nx l i=45)/\a=i+1)) :
  Lib.atoiAll (subT l i (j - i))=.ok (if nx l i=45 then -(digN (subT l a (j - a)) 0:Int) else (digN (subT l a (j - a)) 0:Int)):=by
 have hlen:=subT_len l a (j - a) (by omega)
 have hne:subT l a (j - a) ≠ []:=fun e=>by rw [e] at hlen;simp at hlen;omega
 rcases h with ⟨h1,rfl⟩ | ⟨h1,rfl⟩
 ·rw [if_neg (fun e=>by rw [e] at h1;exact absurd h1 (by decide))]
  exact atoi_plain _ hne (by omega) hall
 ·have hil:i < l.length:=by omega
  have e:j - i=(j - (i+1))+1:=by omega
  rw [e,subT_cons l i _ hil]
  have hx:=nx_at l i hil
  rcases h1 with h1 | h1
  ·have:l[i]=43:=by
    apply UInt8.toNat_inj.1
    have:(l[i].toNat:Int)=43:=by rw [<-hx];exact h1
    show l[i].toNat=43
    omega
   rw [this,if_neg (by rw [h1];decide)]
   exact atoi_plus _ hne (by omega) hall
  ·have:l[i]=45:=by
    apply UInt8.toNat_inj.1
    have:(l[i].toNat:Int)=45:=by rw [<-hx];exact h1
    show l[i].toNat=45
    omega
   rw [this,if_pos h1]
   exact atoi_minus _ hne (by omega) hall
theorem gb_bytesT (w:World) (e:TypeId) (s:ByteArray):w.grownBy (Lib.bytesWorld w e s) none :=
 ⟨rfl,rfl,rfl,by rw [Lib.bytesWorld_size];omega,fun k hk _=>Lib.bytesWorld_at_old w e s k hk⟩
theorem tAtoi_any (x:List UInt8) (v:Int) (hx:x.length<=1048576) (h:Lib.atoiAll x=.ok v) (w:World) :
  Calls Tryz.prog 121 #[.string ⟨x.toArray⟩] w fun e w'=>e=.returned (.tuple #[.int .i64 v,.nilIface])/\w.grownBy w' none:=by
 have hz:(⟨x.toArray⟩:ByteArray).size=x.length:=by show x.toArray.size=_;simp
 refine (Any.strconv_Atoi_ok Tryz.lays172 ⟨x.toArray⟩ (by rw [hz];omega) v (by simpa using h) w).mono ?_
 rintro e w' ⟨rfl,rfl | ⟨t,rfl⟩⟩
 ·exact ⟨rfl,gb_refl _ _⟩
 ·refine ⟨rfl,?_⟩
  exact gb_bytesT _ _ _
def dgA (l:List UInt8) (i:Nat):Nat:=if isDg (nx l i)=true then i else i+1
theorem rdInt_eq (l:List UInt8) (i:Nat):rdInt l i =
  if toR isDg l (dgA l i)=dgA l i\/(1 < toR isDg l (dgA l i) - dgA l i/\nx l (dgA l i)=48) then .error (2,dgA l i)
  else if 18 < toR isDg l (dgA l i) - dgA l i then .error (3,i)
  else .ok (if nx l i=45 then -(digN (subT l (dgA l i) (toR isDg l (dgA l i) - dgA l i)) 0:Int) else (digN (subT l (dgA l i) (toR isDg l (dgA l i) - dgA l i)) 0:Int),toR isDg l (dgA l i)):=rfl
theorem bl_len (X:ByteArray):X.toList.length=X.size:=by rw [ByteArray.toList_eq];exact Array.length_toList
set_option maxRecDepth 100000 in
set_option maxHeartbeats 1600000 in
theorem tInteger_any (R:Nat) (s:ByteArray) (i T:Nat) (E:Int->TypeId × Value) (w:World) (h:Rd w R s i T) (hs:s.size<=1048576) (he:Es w E) (hR:Far R)
  (hx:isDg (nx s.data.toList i)=true\/nx s.data.toList i=43\/nx s.data.toList i=45) :
  Calls Tryz.prog 103 #[.pointer (some ⟨R,0,none⟩)] w (NuPost R s T E (rdInt s.data.toList i) w):=by
 have hl:s.data.toList.length=s.size:=by simp
 have hil:i < s.size:=by
  rw [<-hl]
  rcases hx with h | h | h
  ·have:=of_decide_eq_true h;exact nx_lt (by omega)
  ·exact nx_lt (by omega)
  ·exact nx_lt (by omega)
 have CN:Hid (∀k w,Rd w R s k T->k<=s.size->Calls Tryz.prog 40 #[.pointer (some ⟨R,0,none⟩)] w fun e w'=>e=.returned (.int .i64 (nx s.data.toList k))/\w.grownBy w' none):=fun k w h1 h2=>tNext_any R s k T w h1 h2 hs
 have CB:Hid (∀c w,Calls Tryz.prog 74 #[.int .i64 c] w fun e w'=>e=.returned (.bool (isDg c))/\w'=w):=tDigit_any
 have CW2:Hid (∀p w,Calls Tryz.prog 101 #[.iface (E 2).1 (E 2).2,.int .i64 (p:Nat)] w fun e w'=>(∃v,e=.returned v/\FaultE w' v E 2 p)/\w.grownBy w' none):=fun p w=>tWrong_any p _ _ w
 have CW3:Hid (∀p w,Calls Tryz.prog 101 #[.iface (E 3).1 (E 3).2,.int .i64 (p:Nat)] w fun e w'=>(∃v,e=.returned v/\FaultE w' v E 3 p)/\w.grownBy w' none):=fun p w=>tWrong_any p _ _ w
 have HTE:Hid (∀w',w.grownBy w' (some R)->w'.cell? ⟨5,0,none⟩=some (.iface (E 2).1 (E 2).2)):=fun w' hg=>(he.grow hR hg).te
 have HRA:Hid (∀w',w.grownBy w' (some R)->w'.cell? ⟨1,0,none⟩=some (.iface (E 3).1 (E 3).2)):=fun w' hg=>(he.grow hR hg).ra
 have CH:Hid (∀k w',w.grownBy w' (some R)->Rd w' R s k T->Calls Tryz.prog 79 #[.pointer (some ⟨R,0,none⟩)] w' fun e w''=>(∃v,e=.returned v/\FaultE w'' v E 2 k)/\w'.grownBy w'' none):=fun k w' hg hr=>tHere_any R s k T (E 2).1 (E 2).2 w' hr (he.grow hR hg).te
 obtain ⟨ty2,hty2⟩:∃ty,(E 2).1=ty:=⟨_,rfl⟩
 obtain ⟨pv2,hpv2⟩:∃pv,(E 2).2=pv:=⟨_,rfl⟩
 obtain ⟨ty3,hty3⟩:∃ty,(E 3).1=ty:=⟨_,rfl⟩
 obtain ⟨pv3,hpv3⟩:∃pv,(E 3).2=pv:=⟨_,rfl⟩
 rw [hty2,hpv2] at CW2 HTE
 rw [hty3,hpv3] at CW3 HRA
 have HST:Hid (∀k,k < s.size->isDg (nx s.data.toList k)=true->toR isDg s.data.toList k=toR isDg s.data.toList (k+1)):=fun k hk hb=>toR_step isDg _ k (by omega) hb
 have HSP:Hid (∀k,isDg (nx s.data.toList k)=false->toR isDg s.data.toList k=k):=fun k hb=>toR_stop isDg _ k hb
 have HLT:Hid (∀k,k<=s.size->isDg (nx s.data.toList k)=true->k < s.size):=fun k hk hb=>by
  apply Classical.byContradiction
  intro hn
  rw [nx_end _ _ (by omega)] at hb
  exact absurd hb (by decide)
 have haa:i<=dgA s.data.toList i/\dgA s.data.toList i<=s.size/\((isDg (nx s.data.toList i)=true/\dgA s.data.toList i=i)\/((nx s.data.toList i=43\/nx s.data.toList i=45)/\dgA s.data.toList i=i+1)):=by
  unfold dgA
  by_cases hd:isDg (nx s.data.toList i)=true
  ·rw [if_pos hd];exact ⟨by omega,by omega,Or.inl ⟨hd,rfl⟩⟩
  ·rw [if_neg hd]
   refine ⟨by omega,by omega,Or.inr ⟨?_,rfl⟩⟩
   rcases hx with h | h
   ·exact absurd h hd
   ·exact h
 have hA1:Hid (dgA s.data.toList i=if isDg (nx s.data.toList i)=true then i else i+1):=rfl
 have hjj:=toR_le isDg s.data.toList (dgA s.data.toList i) (by omega)
 rw [hl] at hjj
 have hall:=toR_all isDg s.data.toList (dgA s.data.toList i)
 have HRE:Hid (rdInt s.data.toList i=_):=rdInt_eq s.data.toList i
 have hat:∀j,j<=s.size->dgA s.data.toList i < j->(∀c ∈ subT s.data.toList (dgA s.data.toList i) (j - dgA s.data.toList i),isDg (c.toNat:Int)=true)->j - dgA s.data.toList i<=18->Lib.atoiAll (subT s.data.toList i (j - i))=.ok (if nx s.data.toList i=45 then -(digN (subT s.data.toList (dgA s.data.toList i) (j - dgA s.data.toList i)) 0:Int) else (digN (subT s.data.toList (dgA s.data.toList i) (j - dgA s.data.toList i)) 0:Int)):=fun j h1 h2 h3 h4=>atoi_int s.data.toList i _ j (by omega) h2 h3 h4 haa.2.2
 obtain ⟨a,ha⟩:∃a,dgA s.data.toList i=a:=⟨_,rfl⟩
 obtain ⟨J,hJ⟩:∃J,toR isDg s.data.toList a=J:=⟨_,rfl⟩
 rw [ha] at haa hA1 hjj hall HRE hat
 rw [hJ] at hjj hall HRE
 obtain ⟨D,hD⟩:∃D,subT s.data.toList a (J - a)=D:=⟨_,rfl⟩
 have hDl:D.length=J - a:=by rw [<-hD];exact subT_len _ _ _ (by omega)
 have hAt:a < J->J - a<=18->Lib.atoiAll (subT s.data.toList i (J - i))=.ok (if nx s.data.toList i=45 then -(digN D 0:Int) else (digN D 0:Int)):=fun h1 h2=>by
  have:=hat J hjj.2 h1 (by rw [hD];rw [hD] at hall;exact hall) h2
  rw [hD] at this
  exact this
 rw [hD] at HRE
 obtain ⟨val,hval⟩:∃v,(if nx s.data.toList i=45 then -(digN D 0:Int) else (digN D 0:Int))=v:=⟨_,rfl⟩
 rw [hval] at HRE hAt
 have HJ:Hid (toR isDg s.data.toList a=J):=hJ
 obtain ⟨W,hW⟩:∃W,subT s.data.toList i (J - i)=W:=⟨_,rfl⟩
 have hWl:W.length<=1048576:=by rw [<-hW];unfold subT;rw [List.length_take,List.length_drop];omega
 rw [hW] at hAt
 have s1:∀wx,(Instr.slice 9 (.string s) (some (.int .i64 (a:Int))) (some (.int .i64 (J:Int))) none).run Tryz.prog wx=.ok (.string ⟨D.toArray⟩) wx:=fun wx=>by rw [<-hD];exact run_sub s a J hjj.1 hjj.2 wx
 have s2:∀wx,(Instr.slice 9 (.string s) (some (.int .i64 (i:Int))) (some (.int .i64 (J:Int))) none).run Tryz.prog wx=.ok (.string ⟨W.toArray⟩) wx:=fun wx=>by rw [<-hW];exact run_sub s i J (by omega) hjj.2 wx
 have CA:Hid (a < J->J - a<=18->∀w,Calls Tryz.prog 121 #[.string ⟨W.toArray⟩] w fun e w'=>e=.returned (.tuple #[.int .i64 val,.nilIface])/\w.grownBy w' none):=fun h1 h2 w=>tAtoi_any W val hWl (hAt h1 h2) w
 have hXn:a < J->∃c r,D=c :: r/\(c.toNat:Int)=nx s.data.toList a:=fun h1=>by
  have hal:a < s.data.toList.length:=by omega
  refine ⟨s.data.toList[a],subT s.data.toList (a+1) (J - a - 1),?_,(nx_at s.data.toList a hal).symm⟩
  rw [<-hD,show J - a=(J - a - 1)+1 by omega]
  exact subT_cons _ _ _ hal
 obtain ⟨X,hX⟩:∃X:ByteArray,⟨D.toArray⟩=X:=⟨_,rfl⟩
 obtain ⟨Y,hY⟩:∃Y:ByteArray,⟨W.toArray⟩=Y:=⟨_,rfl⟩
 have hXl:X.toList=D:=by rw [<-hX,ByteArray.toList_eq]
 have hXs:X.size=J - a:=by rw [<-hX];show D.toArray.size=_;simp [hDl]
 have HX0:Hid (∀h:0 < X.size,((X[0]'h).toNat:Int)=nx s.data.toList a):=fun h=>by
  obtain ⟨c,r,e1,e2⟩:=hXn (by omega)
  subst hX
  rw [<-e2]
  subst e1
  rfl
 have HXY:Hid (a=i->Y=X):=fun e=>by rw [<-hX,<-hY,<-hD,<-hW,e]
 rw [hX] at s1
 rw [hY] at s2 CA
 obtain ⟨G,hG⟩:∃G,rdInt s.data.toList i=G:=⟨_,rfl⟩
 rw [hG] at HRE ⊢
 obtain ⟨hia,has,-⟩:=haa
 obtain ⟨haJ,hJs⟩:=hjj
 obtain ⟨z,hz⟩:∃z,nx s.data.toList a=z:=⟨_,rfl⟩
 rw [hz] at HRE HX0
 have HRG:Hid (G=if J=a\/(1 < J - a/\z=48) then .error (2,a) else if 18 < J - a then .error (3,i) else .ok (val,J)):=HRE.out
 have H0:Hid (Rd w R s i T):=h
 have C0:Hid (∀w',Rd w' R s i T->Calls Tryz.prog 40 #[.pointer (some ⟨R,0,none⟩)] w' fun e w''=>e=.returned (.int .i64 (nx s.data.toList i))/\w'.grownBy w'' none):=fun w' h1=>CN.out i w' h1 (by omega)
 obtain ⟨x,hxx⟩:∃x,nx s.data.toList i=x:=⟨_,rfl⟩
 rw [hxx] at C0 hA1
 have CB0:Hid (∀w,Calls Tryz.prog 74 #[.int .i64 x] w fun e w'=>e=.returned (.bool (isDg x))/\w'=w):=CB.out x
 obtain ⟨b0,hb0⟩:∃b,isDg x=b:=⟨_,rfl⟩
 rw [hb0] at CB0 hA1
 obtain ⟨c0,c1,-,-⟩:=h.cells
 clear h hJ hG hD hval hW hX hY hXl hxx hb0 hz hAt hat hXn hDl hWl hall ha HRE hty2 hpv2 hty3 hpv3 he hx hl
 go_enter Tryz.func103,Tryz.ntmps103
 go_wp2_with (first | (go_at_call 40;refine (C0.out _ H0.out).mono ?_))
 rintro e w1 ⟨rfl,hg1⟩
 have HR1:Hid (Rd w1 R s i T):=H0.out.grow hg1
 have HG1:Hid (w.grownBy w1 (some R)):=gb_more (gb_refl w (some R)) hg1
 obtain ⟨-,e1,-,ef⟩:=HR1.out.cells
 have ef1:=ef 1
 have HRS:Hid (Rd (w1.setCell ⟨R,1,none⟩ (.int .i64 ((i:Int)+1))) R s (i+1) T):=HR1.out.set (i+1)
 have HGS:Hid (w.grownBy (w1.setCell ⟨R,1,none⟩ (.int .i64 ((i:Int)+1))) (some R)):=gb_set HG1.out 1 _
 clear hg1 ef c0 c1
 cases b0 with
 | true =>
  have HA:a=i:=by have:=hA1.out;rw [if_pos rfl] at this;exact this
  subst HA
  have hXY:X=Y:=(HXY.out rfl).symm
  subst hXY
  go_wp2_with (first | (go_at_call 74;refine (CB0.out _).mono ?_;rintro e wZ ⟨rfl,rfl⟩))
  have HRZ:=HR1
  have HGZ:=HG1
  go_loopw [] (fun wr=>∃k:Nat,Rd wr R s k T/\k<=s.size/\toR isDg s.data.toList k=J/\w.grownBy wr (some R)) (fun wr=>s.size - (match wr.cell? ⟨R,1,none⟩ with | some (.int _ k)=>k.toNat | _=>0))
  case atStart=>exact ⟨a,HRZ.out,by omega,HJ.out,HGZ.out⟩
  case round =>
   obtain ⟨k,hrd,hk,hbl,hg⟩:=hrel
   have HRD:Hid (Rd wr R s k T):=hrd
   have HBL:Hid (toR isDg s.data.toList k=J):=hbl
   have HG:Hid (w.grownBy wr (some R)):=hg
   have C1:Hid (Calls Tryz.prog 40 #[.pointer (some ⟨R,0,none⟩)] wr fun e w'=>e=.returned (.int .i64 (nx s.data.toList k))/\wr.grownBy w' none):=CN.out k wr hrd hk
   have HME:Hid ((match wr.cell? ⟨R,1,none⟩ with | some (.int _ k)=>k.toNat | _=>0)=k):=by show _=_;rw [hrd.cells.2.1];simp
   have HS1:Hid (isDg (nx s.data.toList k)=true->toR isDg s.data.toList k=toR isDg s.data.toList (k+1)):=fun hb=>HST.out k (HLT.out k hk hb) hb
   have HS2:Hid (isDg (nx s.data.toList k)=false->toR isDg s.data.toList k=k):=HSP.out k
   have HL2:Hid (isDg (nx s.data.toList k)=true->k < s.size):=HLT.out k hk
   obtain ⟨c,hc⟩:∃c,nx s.data.toList k=c:=⟨_,rfl⟩
   rw [hc] at C1 HS1 HS2 HL2
   have CB1:Hid (∀w,Calls Tryz.prog 74 #[.int .i64 c] w fun e w'=>e=.returned (.bool (isDg c))/\w'=w):=fun w=>CB.out c w
   obtain ⟨b,hb⟩:∃b,isDg c=b:=⟨_,rfl⟩
   rw [hb] at CB1 HS1 HS2 HL2
   clear hrd hbl hg hc hb
   cases b with
   | true =>
    have hkl:k < s.size:=HL2.out (by trivial)
    have HN:Hid (toR isDg s.data.toList (k+1)=J):=(HS1.out (by trivial)).symm.trans HBL.out
    go_wp2_with (first | (go_at_call 40;refine C1.out.mono ?_;rintro e w2 ⟨rfl,hg2⟩;obtain ⟨-,d1,-,df⟩:=(HRD.out.grow hg2).cells;have df1:=df 1) | (go_at_call 74;refine (CB1.out _).mono ?_;rintro e w' ⟨rfl,rfl⟩))
    have HS3:Hid (Rd (w'.setCell ⟨R,1,none⟩ (.int .i64 ((k:Int)+1))) R s (k+1) T):=(HRD.out.grow hg2).set (k+1)
    refine ⟨⟨k+1,HS3.out,by omega,HN.out,gb_set (gb_more HG.out hg2) 1 _⟩,?_⟩
    rw [HME.out,HS3.out.cells.2.1]
    simp
    omega
   | false =>
    have HKJ:Hid (k=J):=(HS2.out (by trivial)).symm.trans HBL.out
    go_wp2_with (first | (go_at_call 40;refine C1.out.mono ?_;rintro e w2 ⟨rfl,hg2⟩) | (go_at_call 74;refine (CB1.out _).mono ?_;rintro e w' ⟨rfl,rfl⟩))
    have HR2:Hid (Rd w' R s J T):=by rw [<-HKJ.out];exact HRD.out.grow hg2
    have HG2:Hid (w.grownBy w' (some R)):=gb_more HG.out hg2
    obtain ⟨d0,d1,-,-⟩:=HR2.out.cells
    have dte:=HTE.out _ HG2.out
    have dra:=HRA.out _ HG2.out
    clear hg2
    by_cases hJa:J=a
    ·have hbe:X.toList.isEmpty=true:=by
      have:X.toList.length=0:=by rw [bl_len];omega
      rw [List.isEmpty_iff];exact List.length_eq_zero_iff.1 this
     have HGG:Hid (G=.error (2,J)):=by
      show _=_
      rw [HRG.out,if_pos (Or.inl hJa),hJa]
     have CH1:Hid (∀n,Calls Tryz.prog 79 #[.pointer (some ⟨R,0,none⟩)] (w'.drewN n) fun e w''=>(∃v,e=.returned v/\FaultE w'' v E 2 J)/\(w'.drewN n).grownBy w'' none):=fun n=>CH.out J _ (gb_drew HG2.out n) HR2.out
     clear hJa
     go_quiet (fail)
     go_wp2_with (first | (go_at_call 79;refine (CH1.out _).mono ?_;rintro e w3 ⟨⟨v,rfl,hv⟩,hg3⟩))
     refine bodyPost_ret (results_tmp2 (t:=2) (u:=3) rfl _ _ _) rfl ?_
     rw [HGG.out]
     exact ⟨fun n j hh=>(by cases hh),fun c p hh=>(by cases hh;exact ⟨v,rfl,hv,J,Rd.grow (w:=World.drewN w' _) HR2.out hg3⟩),gb_more (gb_drew HG2.out _) hg3⟩
    ·have hbe:X.toList.isEmpty=false:=by
      rw [Bool.eq_false_iff]
      intro hh
      rw [List.isEmpty_iff] at hh
      have:X.toList.length=0:=by rw [hh];rfl
      rw [bl_len] at this
      omega
     have hX0:0 < X.size:=by omega
     have hz0:=HX0.out hX0
     have hJg:a < J:=by omega
     by_cases hzz:z=48/\1 < J - a
     ·have HGG:Hid (G=.error (2,a)):=by
       show _=_
       rw [HRG.out,if_pos (Or.inr ⟨hzz.2,hzz.1⟩)]
      have hq1:(z == 48)=true:=by simp [hzz.1]
      have hq2:(1:Int) < (X.size:Int):=by omega
      clear hJa hzz
      go_quiet (fail)
      go_wp2_with (first | (go_at_call 101;refine (CW2.out _ _).mono ?_;rintro e w3 ⟨⟨v,rfl,hv⟩,hg3⟩))
      refine bodyPost_ret (results_tmp2 (t:=2) (u:=3) rfl _ _ _) rfl ?_
      rw [HGG.out]
      exact ⟨fun n j hh=>(by cases hh),fun c p hh=>(by cases hh;exact ⟨v,rfl,hv,J,Rd.grow (w:=World.drewN w' _) HR2.out hg3⟩),gb_more (gb_drew HG2.out _) hg3⟩
     ·have HG3:Hid (G=if 18 < J - a then .error (3,a) else .ok (val,J)):=by
       show _=_
       rw [HRG.out,if_neg (by rintro (h | h);exact hJa h;exact hzz ⟨h.2,h.1⟩)]
      have hcase:((z == 48)=true/\(X.size:Int)<=1)\/(z == 48)=false:=by
       by_cases h:z=48
       ·exact Or.inl ⟨by simp [h],by omega⟩
       ·exact Or.inr (by simp [h])
      clear hzz hJa
      by_cases h18:18 < J - a
      ·have HGG:Hid (G=.error (3,a)):=by show _=_;rw [HG3.out,if_pos h18]
       have hq2:(18:Int) < (X.size:Int):=by omega
       clear h18
       go_quiet (fail)
       rcases hcase with ⟨hq,hq3⟩ | hq
       ·exfalso;omega
       ·go_wp2_with (first | (go_at_call 101;refine (CW3.out _ _).mono ?_;rintro e w3 ⟨⟨v,rfl,hv⟩,hg3⟩))
        refine bodyPost_ret (results_tmp2 (t:=2) (u:=3) rfl _ _ _) rfl ?_
        rw [HGG.out]
        exact ⟨fun n j hh=>(by cases hh),fun c p hh=>(by cases hh;exact ⟨v,rfl,hv,J,Rd.grow (w:=World.drewN w' _) HR2.out hg3⟩),gb_more (gb_drew HG2.out _) hg3⟩
      ·have HGG:Hid (G=.ok (val,J)):=by show _=_;rw [HG3.out,if_neg h18]
       have hq2:(X.size:Int)<=18:=by omega
       have CA1:Hid (∀w,Calls Tryz.prog 121 #[.string X] w fun e w'=>e=.returned (.tuple #[.int .i64 val,.nilIface])/\w.grownBy w' none):=CA.out hJg (by omega)
       clear h18
       go_quiet (fail)
       rcases hcase with ⟨hq,hq3⟩ | hq
       all_goals (
        go_wp2
        go_region_held3 (fun u=>u.cell? ⟨R,0,none⟩=some (.string s)/\u.cell? ⟨R,1,none⟩=some (.int .i64 (J:Int))) ((first | exact ⟨World.grownBy.cell (by assumption) (And.left (by assumption)) (by simp),World.grownBy.cell (by assumption) (And.right (by assumption)) (by simp)⟩ | go_keep)) (first | (go_at_call 121;refine (CA1.out _).mono ?_;rintro e w6 ⟨rfl,hg6⟩))
        have hg66:w'.grownBy w6 none:=⟨hg6.os,hg6.tape,hg6.output,hg6.size,hg6.block⟩
        have HR6:Hid (Rd w6 R s J T):=HR2.out.grow hg66
        have HG6:Hid (w.grownBy w6 (some R)):=gb_more HG2.out hg66
        clear hg6 hg66
        go_wp2
        refine bodyPost_ret (results_tmp2 (t:=2) (u:=3) rfl _ _ _) rfl ?_
        rw [HGG.out]
        exact ⟨fun n j hh=>(by cases hh;exact ⟨rfl,HR6.out⟩),fun c p hh=>(by cases hh),HG6.out⟩)
 | false =>
  have HA:Hid (a=i+1):=by have:=hA1.out;rw [if_neg (by decide)] at this;exact this
  have hai:(i:Int)+1=(a:Int):=by have:=HA.out;omega
  go_wp2_with (first | (go_at_call 74;refine (CB0.out _).mono ?_;rintro e wZ ⟨rfl,rfl⟩))
  have HRZ:Hid (Rd (wZ.setCell ⟨R,1,none⟩ (.int .i64 (a:Int))) R s a T):=by
   have:=HRS.out
   rw [hai,<-HA.out] at this
   exact this
  have HGZ:Hid (w.grownBy (wZ.setCell ⟨R,1,none⟩ (.int .i64 (a:Int))) (some R)):=by
   have:=HGS.out
   rw [hai] at this
   exact this
  try rw [hai]
  clear hai
  go_loopw [] (fun wr=>∃k:Nat,Rd wr R s k T/\k<=s.size/\toR isDg s.data.toList k=J/\w.grownBy wr (some R)) (fun wr=>s.size - (match wr.cell? ⟨R,1,none⟩ with | some (.int _ k)=>k.toNat | _=>0))
  case atStart=>exact ⟨a,HRZ.out,by omega,HJ.out,HGZ.out⟩
  case round =>
   obtain ⟨k,hrd,hk,hbl,hg⟩:=hrel
   have HRD:Hid (Rd wr R s k T):=hrd
   have HBL:Hid (toR isDg s.data.toList k=J):=hbl
   have HG:Hid (w.grownBy wr (some R)):=hg
   have C1:Hid (Calls Tryz.prog 40 #[.pointer (some ⟨R,0,none⟩)] wr fun e w'=>e=.returned (.int .i64 (nx s.data.toList k))/\wr.grownBy w' none):=CN.out k wr hrd hk
   have HME:Hid ((match wr.cell? ⟨R,1,none⟩ with | some (.int _ k)=>k.toNat | _=>0)=k):=by show _=_;rw [hrd.cells.2.1];simp
   have HS1:Hid (isDg (nx s.data.toList k)=true->toR isDg s.data.toList k=toR isDg s.data.toList (k+1)):=fun hb=>HST.out k (HLT.out k hk hb) hb
   have HS2:Hid (isDg (nx s.data.toList k)=false->toR isDg s.data.toList k=k):=HSP.out k
   have HL2:Hid (isDg (nx s.data.toList k)=true->k < s.size):=HLT.out k hk
   obtain ⟨c,hc⟩:∃c,nx s.data.toList k=c:=⟨_,rfl⟩
   rw [hc] at C1 HS1 HS2 HL2
   have CB1:Hid (∀w,Calls Tryz.prog 74 #[.int .i64 c] w fun e w'=>e=.returned (.bool (isDg c))/\w'=w):=fun w=>CB.out c w
   obtain ⟨b,hb⟩:∃b,isDg c=b:=⟨_,rfl⟩
   rw [hb] at CB1 HS1 HS2 HL2
   clear hrd hbl hg hc hb
   cases b with
   | true =>
    have hkl:k < s.size:=HL2.out (by trivial)
    have HN:Hid (toR isDg s.data.toList (k+1)=J):=(HS1.out (by trivial)).symm.trans HBL.out
    go_wp2_with (first | (go_at_call 40;refine C1.out.mono ?_;rintro e w2 ⟨rfl,hg2⟩;obtain ⟨-,d1,-,df⟩:=(HRD.out.grow hg2).cells;have df1:=df 1) | (go_at_call 74;refine (CB1.out _).mono ?_;rintro e w' ⟨rfl,rfl⟩))
    have HS3:Hid (Rd (w'.setCell ⟨R,1,none⟩ (.int .i64 ((k:Int)+1))) R s (k+1) T):=(HRD.out.grow hg2).set (k+1)
    refine ⟨⟨k+1,HS3.out,by omega,HN.out,gb_set (gb_more HG.out hg2) 1 _⟩,?_⟩
    rw [HME.out,HS3.out.cells.2.1]
    simp
    omega
   | false =>
    have HKJ:Hid (k=J):=(HS2.out (by trivial)).symm.trans HBL.out
    go_wp2_with (first | (go_at_call 40;refine C1.out.mono ?_;rintro e w2 ⟨rfl,hg2⟩) | (go_at_call 74;refine (CB1.out _).mono ?_;rintro e w' ⟨rfl,rfl⟩))
    have HR2:Hid (Rd w' R s J T):=by rw [<-HKJ.out];exact HRD.out.grow hg2
    have HG2:Hid (w.grownBy w' (some R)):=gb_more HG.out hg2
    obtain ⟨d0,d1,-,-⟩:=HR2.out.cells
    have dte:=HTE.out _ HG2.out
    have dra:=HRA.out _ HG2.out
    clear hg2
    by_cases hJa:J=a
    ·have hbe:X.toList.isEmpty=true:=by
      have:X.toList.length=0:=by rw [bl_len];omega
      rw [List.isEmpty_iff];exact List.length_eq_zero_iff.1 this
     have HGG:Hid (G=.error (2,J)):=by
      show _=_
      rw [HRG.out,if_pos (Or.inl hJa),hJa]
     have CH1:Hid (∀n,Calls Tryz.prog 79 #[.pointer (some ⟨R,0,none⟩)] (w'.drewN n) fun e w''=>(∃v,e=.returned v/\FaultE w'' v E 2 J)/\(w'.drewN n).grownBy w'' none):=fun n=>CH.out J _ (gb_drew HG2.out n) HR2.out
     clear hJa
     go_quiet (fail)
     go_wp2_with (first | (go_at_call 79;refine (CH1.out _).mono ?_;rintro e w3 ⟨⟨v,rfl,hv⟩,hg3⟩))
     refine bodyPost_ret (results_tmp2 (t:=2) (u:=3) rfl _ _ _) rfl ?_
     rw [HGG.out]
     exact ⟨fun n j hh=>(by cases hh),fun c p hh=>(by cases hh;exact ⟨v,rfl,hv,J,Rd.grow (w:=World.drewN w' _) HR2.out hg3⟩),gb_more (gb_drew HG2.out _) hg3⟩
    ·have hbe:X.toList.isEmpty=false:=by
      rw [Bool.eq_false_iff]
      intro hh
      rw [List.isEmpty_iff] at hh
      have:X.toList.length=0:=by rw [hh];rfl
      rw [bl_len] at this
      omega
     have hX0:0 < X.size:=by omega
     have hz0:=HX0.out hX0
     have hJg:a < J:=by omega
     by_cases hzz:z=48/\1 < J - a
     ·have HGG:Hid (G=.error (2,a)):=by
       show _=_
       rw [HRG.out,if_pos (Or.inr ⟨hzz.2,hzz.1⟩)]
      have hq1:(z == 48)=true:=by simp [hzz.1]
      have hq2:(1:Int) < (X.size:Int):=by omega
      clear hJa hzz
      go_quiet (fail)
      go_wp2_with (first | (go_at_call 101;refine (CW2.out _ _).mono ?_;rintro e w3 ⟨⟨v,rfl,hv⟩,hg3⟩))
      refine bodyPost_ret (results_tmp2 (t:=2) (u:=3) rfl _ _ _) rfl ?_
      rw [HGG.out]
      exact ⟨fun n j hh=>(by cases hh),fun c p hh=>(by cases hh;exact ⟨v,rfl,hv,J,Rd.grow (w:=World.drewN w' _) HR2.out hg3⟩),gb_more (gb_drew HG2.out _) hg3⟩
     ·have HG3:Hid (G=if 18 < J - a then .error (3,i) else .ok (val,J)):=by
       show _=_
       rw [HRG.out,if_neg (by rintro (h | h);exact hJa h;exact hzz ⟨h.2,h.1⟩)]
      have hcase:((z == 48)=true/\(X.size:Int)<=1)\/(z == 48)=false:=by
       by_cases h:z=48
       ·exact Or.inl ⟨by simp [h],by omega⟩
       ·exact Or.inr (by simp [h])
      clear hzz hJa
      by_cases h18:18 < J - a
      ·have HGG:Hid (G=.error (3,i)):=by show _=_;rw [HG3.out,if_pos h18]
       have hq2:(18:Int) < (X.size:Int):=by omega
       clear h18
       go_quiet (fail)
       rcases hcase with ⟨hq,hq3⟩ | hq
       ·exfalso;omega
       ·go_wp2_with (first | (go_at_call 101;refine (CW3.out _ _).mono ?_;rintro e w3 ⟨⟨v,rfl,hv⟩,hg3⟩))
        refine bodyPost_ret (results_tmp2 (t:=2) (u:=3) rfl _ _ _) rfl ?_
        rw [HGG.out]
        exact ⟨fun n j hh=>(by cases hh),fun c p hh=>(by cases hh;exact ⟨v,rfl,hv,J,Rd.grow (w:=World.drewN w' _) HR2.out hg3⟩),gb_more (gb_drew HG2.out _) hg3⟩
      ·have HGG:Hid (G=.ok (val,J)):=by show _=_;rw [HG3.out,if_neg h18]
       have hq2:(X.size:Int)<=18:=by omega
       have CA1:Hid (∀w,Calls Tryz.prog 121 #[.string Y] w fun e w'=>e=.returned (.tuple #[.int .i64 val,.nilIface])/\w.grownBy w' none):=CA.out hJg (by omega)
       clear h18
       go_quiet (fail)
       rcases hcase with ⟨hq,hq3⟩ | hq
       all_goals (
        go_wp2
        go_region_held3 (fun u=>u.cell? ⟨R,0,none⟩=some (.string s)/\u.cell? ⟨R,1,none⟩=some (.int .i64 (J:Int))) ((first | exact ⟨World.grownBy.cell (by assumption) (And.left (by assumption)) (by simp),World.grownBy.cell (by assumption) (And.right (by assumption)) (by simp)⟩ | go_keep)) (first | (go_at_call 121;refine (CA1.out _).mono ?_;rintro e w6 ⟨rfl,hg6⟩))
        have hg66:w'.grownBy w6 none:=⟨hg6.os,hg6.tape,hg6.output,hg6.size,hg6.block⟩
        have HR6:Hid (Rd w6 R s J T):=HR2.out.grow hg66
        have HG6:Hid (w.grownBy w6 (some R)):=gb_more HG2.out hg66
        clear hg6 hg66
        go_wp2
        refine bodyPost_ret (results_tmp2 (t:=2) (u:=3) rfl _ _ _) rfl ?_
        rw [HGG.out]
        exact ⟨fun n j hh=>(by cases hh;exact ⟨rfl,HR6.out⟩),fun c p hh=>(by cases hh),HG6.out⟩)
end Go.Proofs.YtbgnflcebafjjaaGreatDoor
namespace Go.Proofs.YtbgnflcebafjjaaGreatDoor
open Go.RowKit Go.Maps Go.WideMaps Go.Joins
set_option linter.unusedVariables false
theorem Tr.keepR {w w':World} {B T:Nat} {ns:List Tn} {own:List Nat} {now R:Nat} {s:ByteArray} {i T':Nat} (h:Tr w B T ns own now) (hr:Rd w R s i T') (hg:w.grownBy w' (some R)):Tr w' B T ns own now:=by
 obtain ⟨N,c,M,xs,ks,hD⟩:=h
 exact ⟨N,c,M,xs,ks,hD.keeps (keeps_R hr hg)⟩
theorem Rd.fr {w w':World} {R:Nat} {s:ByteArray} {i T B:Nat} (h:Rd w R s i T) (hf:Fr B w w'):Rd w' R s i T:=(hf.oth _ _ _ _ h (by decide) (by decide) (by decide)).trans h
theorem addN_last (ns:List Tn) (up:Nat) (x:Tn) (h:ns.length < (addN ns up x).length):(addN ns up x)[ns.length]'h=x:=by
 obtain ⟨X,h1,h2⟩:=addN_form ns up x
 have:(addN ns up x)[ns.length]?=some x:=by rw [h2,<-h1];simp
 rw [List.getElem?_eq_getElem h] at this
 exact Option.some.inj this
theorem hold_put (ns:List Tn) (own:List Nat) (up:Nat) (x y:Tn) (h1:y.kd=x.kd) (h2:y.ky=x.ky) (h3:y.ks=x.ks):hold (addN ns up y) own=hold (addN ns up x) own:=by
 have hl:ns.length < (addN ns up x).length:=by rw [addN_len];omega
 have e:=addN_last ns up x hl
 obtain ⟨a,b,c⟩:=same_put (addN ns up x) ns.length y hl (by rw [e];exact h1) (by rw [e];exact h2) (by rw [e];exact h3)
 rw [addN_put] at a b c
 exact hold_cong own a b c
theorem Tr.last {w:World} {B T:Nat} {ns:List Tn} {own:List Nat} {now up:Nat} {kd:Int} {k:List UInt8} {p:Nat} (h:Tr w B T (addN ns up ⟨kd,k,[],0,[],p⟩) own now) :
  ∃N cc,w.cell? ⟨T,0,none⟩=some (.slice (some ⟨N,0,none⟩) (ns.length+1) cc)/\(∃cs,w.heap[N]?=some (.cells cs 33 (0,0)))/\B<=N/\w.cell? ⟨N,ns.length * 6+2,none⟩=some (.string ⟨#[]⟩)/\w.cell? ⟨N,ns.length * 6+3,none⟩=some (.int .i64 0) ∧
   (∀t:List UInt8,Tr (w.setCell ⟨N,ns.length * 6+2,none⟩ (.string ⟨t.toArray⟩)) B T (addN ns up ⟨kd,k,t,0,[],p⟩) own now)/\∀v:Int,Tr (w.setCell ⟨N,ns.length * 6+3,none⟩ (.int .i64 v)) B T (addN ns up ⟨kd,k,[],v,[],p⟩) own now:=by
 obtain ⟨N,c,M,xs,ks,hD⟩:=h
 have hl:ns.length < (addN ns up ⟨kd,k,[],0,[],p⟩).length:=by rw [addN_len];omega
 have e:=addN_last ns up ⟨kd,k,[],0,[],p⟩ hl
 have hc:=hD.cells.1
 rw [addN_len] at hc
 obtain ⟨-,-,n2,n3,-,-,-⟩:=hD.node ns.length hl
 rw [e] at n2 n3
 refine ⟨N,c,hc,hD.rowT,(own_typ hD.row rfl).1,n2,n3,fun t=>?_,fun v=>?_⟩
 ·refine ⟨N,c,M,xs.set (ns.length * 6+2) (.string ⟨t.toArray⟩),ks,?_⟩
  have h1:=hD.cellSet ns.length 2 (.string ⟨t.toArray⟩) ⟨kd,k,t,0,[],p⟩ hl (by omega) (by omega) (by rw [e]) (fun j u hu=>by
   rw [e] at hu
   by_cases hj:j=2
   ·subst hj
    rw [if_pos rfl] at hu
    exact hu
   ·rw [if_neg hj] at hu
    match j,hj,hu with
    | 0,_,hu=>exact hu
    | 1,_,hu=>exact hu
    | 3,_,hu=>exact hu
    | 4,_,hu=>exact hu
    | 5,_,hu=>exact hu
    | j+6,_,hu=>simp at hu)
  rw [addN_put] at h1
  rw [hold_put ns own up ⟨kd,k,[],0,[],p⟩ ⟨kd,k,t,0,[],p⟩ rfl rfl rfl,addN_len,<-addN_len ns up ⟨kd,k,[],0,[],p⟩]
  exact h1
 ·refine ⟨N,c,M,xs.set (ns.length * 6+3) (.int .i64 v),ks,?_⟩
  have h1:=hD.cellSet ns.length 3 (.int .i64 v) ⟨kd,k,[],v,[],p⟩ hl (by omega) (by omega) (by rw [e]) (fun j u hu=>by
   rw [e] at hu
   by_cases hj:j=3
   ·subst hj
    rw [if_pos rfl] at hu
    exact hu
   ·rw [if_neg hj] at hu
    match j,hj,hu with
    | 0,_,hu=>exact hu
    | 1,_,hu=>exact hu
    | 2,_,hu=>exact hu
    | 4,_,hu=>exact hu
    | 5,_,hu=>exact hu
    | j+6,_,hu=>simp at hu)
  rw [addN_put] at h1
  rw [hold_put ns own up ⟨kd,k,[],0,[],p⟩ ⟨kd,k,[],v,[],p⟩ rfl rfl rfl,addN_len,<-addN_len ns up ⟨kd,k,[],0,[],p⟩]
  exact h1
theorem faultE_node {w:World} {v:Value} {E:Int->TypeId × Value} {c:Int} {p N o:Nat} {cs:Array Value} {x:Value} (h:FaultE w v E c p) (hN:w.heap[N]?=some (.cells cs 33 (0,0))):FaultE (w.setCell ⟨N,o,none⟩ x) v E c p:=by
 obtain ⟨F,h1,h2⟩:=h
 exact ⟨F,h1,(heap_setCell_other _ _ _ _ (ne_typ h2 hN (by decide))).trans h2⟩
theorem Rd.node {w:World} {R:Nat} {s:ByteArray} {i T N o:Nat} {cs:Array Value} {x:Value} (h:Rd w R s i T) (hN:w.heap[N]?=some (.cells cs 33 (0,0))):Rd (w.setCell ⟨N,o,none⟩ x) R s i T:=(heap_setCell_other _ _ _ _ (ne_typ h hN (by decide))).trans h
theorem bel_set {w w1:World} {B b:Nat} (h:Below B w w1) (hb:B<=b) (o:Nat) (v:Value):Below B w (w1.setCell ⟨b,o,none⟩ v):=⟨h.os,h.tape,h.output,by have:=h.size;simpa [World.setCell] using this,fun k hk=>(heap_setCell_other _ _ _ _ (by simp;omega)).trans (h.block k hk)⟩
theorem gb_b {w w':World} {B:Nat} (hg:w.grownBy w' none) (hB:B<=w.heap.size):Below B w w':=⟨hg.os,hg.tape,hg.output,hg.size,fun k hk=>hg.block k (by omega) (by simp)⟩
def VlPost (B R T:Nat) (s:ByteArray) (E:Int->TypeId × Value) (own:List Nat) (now:Nat) (r:Rs (Nat × List Tn)) (w:World) (e:Ending) (w':World):Prop :=
 (∀j ns,r=.ok (j,ns)->e=.returned .nilIface/\Rd w' R s j T/\Tr w' B T ns own now)/\(∀c p,r=.error (c,p)->∃v,e=.returned v/\FaultE w' v E c p)/\Below B w w'
def ValC (f:Nat):Prop:=∀(B R T:Nat) (s:ByteArray) (E:Int->TypeId × Value) (own:List Nat) (now i up:Nat) (k:List UInt8) (p d:Nat) (ns:List Tn) (w:World),Rd w R s i T->Tr w B T ns own now->Gl w B E->B<=R->i<=s.size->s.size<=100000->WF ns own->WT ns->up < ns.length->¬ kdAt ns up=2->(kdAt ns up=0->kidO ns up k=none)->k.length<=1048576->d<=8->ns.length+own.length+(s.size - i)<=700000->2 * (s.size - i)+1<=f →
 Calls Tryz.prog 77 #[.pointer (some ⟨R,0,none⟩),.int .i64 (up:Nat),.agg #[.string ⟨k.toArray⟩,.int .i64 (p:Nat)],.int .i64 (d:Nat)] w (VlPost B R T s E own now (val s.data.toList f i up k p d ns) w)
def LstC (f:Nat):Prop:=∀(B R T:Nat) (s:ByteArray) (E:Int->TypeId × Value) (own:List Nat) (now i up d:Nat) (ns:List Tn) (w:World),Rd w R s i T->Tr w B T ns own now->Gl w B E->B<=R->i < s.size->s.size<=100000->WF ns own->WT ns->up < ns.length->kdAt ns up=1->d<=8->ns.length+own.length+(s.size - i)<=700001->2 * (s.size - i)<=f →
 Calls Tryz.prog 105 #[.pointer (some ⟨R,0,none⟩),.int .i64 (up:Nat),.int .i64 (d:Nat)] w (VlPost B R T s E own now (lst s.data.toList f (i+1) up d ns) w)
end Go.Proofs.YtbgnflcebafjjaaGreatDoor
