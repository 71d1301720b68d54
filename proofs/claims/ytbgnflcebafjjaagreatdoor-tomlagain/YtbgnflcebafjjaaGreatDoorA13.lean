import Derived.Shelf.Strconv.Itoa3
import Derived.Test.YtbgnflcebafjjaaGreatDoorProg
import Derived.Test.YtbgnflcebafjjaaGreatDoorA12
import Derived.Test.YtbgnflcebafjjaaGreatDoorA08
namespace Go.Proofs
open Go.Shelf
def Tryz.lays171_ren:Go.Shelf.Ren:=⟨fun | 129=>135 | 171=>93 | 243=>115 | 246=>138 | 283=>151 | 284=>152 | 285=>153 | 286=>154 | 317=>164 | 318=>165 | 319=>166 | 320=>167 | 337=>170 | 338=>171 | n=>n,fun | 22=>41 | 27=>155 | 28=>31 | 31=>108 | 34=>54 | 35=>157 | 37=>74 | 40=>212 | 41=>71 | 42=>158 | 43=>156 | 46=>175 | 47=>174 | 48=>200 | 49=>258 | 51=>193 | 52=>192 | 53=>195 | 54=>194 | 55=>177 | 69=>87 | 70=>73 | 71=>75 | 72=>76 | 73=>79 | 74=>42 | 75=>43 | 76=>118 | 77=>119 | 78=>121 | 79=>180 | 80=>85 | 81=>90 | 83=>127 | 84=>196 | 85=>218 | 86=>219 | 94=>125 | 104=>34 | 105=>181 | 106=>182 | 108=>233 | 111=>91 | 112=>159 | 114=>211 | 119=>213 | 126=>198 | 127=>126 | 128=>199 | 131=>190 | 137=>214 | 138=>215 | 139=>216 | 143=>235 | 144=>236 | 145=>237 | 164=>93 | 165=>176 | 167=>217 | 168=>220 | 169=>221 | 170=>222 | 171=>207 | 172=>208 | 173=>209 | 174=>210 | 175=>229 | 176=>230 | 182=>185 | 183=>186 | 209=>231 | 210=>232 | 211=>226 | 212=>227 | 213=>228 | 214=>234 | 218=>201 | 219=>202 | 220=>203 | 222=>205 | 228=>223 | 229=>224 | 232=>238 | 233=>239 | 238=>240 | 239=>241 | 240=>242 | 241=>243 | 242=>244 | 243=>246 | 244=>101 | 245=>247 | 246=>248 | 247=>249 | 248=>250 | 249=>251 | n=>n,fun | 1=>6 | 3=>7 | 4=>8 | 15=>10 | 16=>11 | 17=>9 | 18=>12 | 19=>13 | n=>n⟩
set_option maxRecDepth 100000 in
theorem Tryz.lays171:Go.Proofs.LaysM.n171 Tryz.prog Tryz.lays171_ren:={
 mixed:=by kernel_rfl
 f129:=Tryz.func135.trans (congrArg some (by kernel_rfl))
 f171:=Tryz.func93.trans (congrArg some (by kernel_rfl))
 f243:=Tryz.func115.trans (congrArg some (by kernel_rfl))
 f246:=Tryz.func138.trans (congrArg some (by kernel_rfl))
 f283:=Tryz.func151.trans (congrArg some (by kernel_rfl))
 f284:=Tryz.func152.trans (congrArg some (by kernel_rfl))
 f285:=Tryz.func153.trans (congrArg some (by kernel_rfl))
 f286:=Tryz.func154.trans (congrArg some (by kernel_rfl))
 f317:=Tryz.func164.trans (congrArg some (by kernel_rfl))
 f318:=Tryz.func165.trans (congrArg some (by kernel_rfl))
 f319:=Tryz.func166.trans (congrArg some (by kernel_rfl))
 f320:=Tryz.func167.trans (congrArg some (by kernel_rfl))
 f337:=Tryz.func170.trans (congrArg some (by kernel_rfl))
 f338:=Tryz.func171.trans (congrArg some (by kernel_rfl))
 t0:=Tryz.underlying0
 a0:=Tryz.isAgg0
 z0:=Tryz.sizeOf0
 v0:=Tryz.zeroValue0
 t2:=Tryz.underlying2
 a2:=Tryz.isAgg2
 z2:=Tryz.sizeOf2
 v2:=Tryz.zeroValue2
 t3:=Tryz.underlying3
 a3:=Tryz.isAgg3
 z3:=Tryz.sizeOf3
 v3:=Tryz.zeroValue3
 t4:=Tryz.underlying4
 a4:=Tryz.isAgg4
 z4:=Tryz.sizeOf4
 v4:=Tryz.zeroValue4
 t5:=Tryz.underlying5
 a5:=Tryz.isAgg5
 z5:=Tryz.sizeOf5
 v5:=Tryz.zeroValue5
 t9:=Tryz.underlying9
 a9:=Tryz.isAgg9
 z9:=Tryz.sizeOf9
 v9:=Tryz.zeroValue9
 t20:=Tryz.underlying20
 a20:=Tryz.isAgg20
 z20:=Tryz.sizeOf20
 v20:=Tryz.zeroValue20
 t37:=Tryz.underlying74
 a37:=Tryz.isAgg74
 z37:=Tryz.sizeOf74
 v37:=Tryz.zeroValue74
 t46:=Tryz.underlying175
 a46:=Tryz.isAgg175
 z46:=Tryz.sizeOf175
 v46:=Tryz.zeroValue175
 t51:=Tryz.underlying193
 a51:=Tryz.isAgg193
 z51:=Tryz.sizeOf193
 v51:=Tryz.zeroValue193
 t53:=Tryz.underlying195
 a53:=Tryz.isAgg195
 z53:=Tryz.sizeOf195
 v53:=Tryz.zeroValue195
 t171:=Tryz.underlying207
 a171:=Tryz.isAgg207
 z171:=Tryz.sizeOf207
 v171:=Tryz.zeroValue207
 t173:=Tryz.underlying209
 a173:=Tryz.isAgg209
 z173:=Tryz.sizeOf209
 v173:=Tryz.zeroValue209
 t212:=Tryz.underlying227
 a212:=Tryz.isAgg227
 z212:=Tryz.sizeOf227
 v212:=Tryz.zeroValue227
 t213:=Tryz.underlying228
 a213:=Tryz.isAgg228
 z213:=Tryz.sizeOf228
 t232:=Tryz.underlying238
 a232:=Tryz.isAgg238
 z232:=Tryz.sizeOf238
 v232:=Tryz.zeroValue238
 t233:=Tryz.underlying239
 a233:=Tryz.isAgg239
 z233:=Tryz.sizeOf239
 v233:=Tryz.zeroValue239
 g17:=by kernel_rfl
 g18:=by kernel_rfl
 g19:=by kernel_rfl
 i0:=by kernel_rfl
 i2:=by kernel_rfl
 i3:=by kernel_rfl
 i4:=by kernel_rfl
 i5:=by kernel_rfl
 i9:=by kernel_rfl
 i20:=by kernel_rfl
 i37:=by kernel_rfl
 i46:=by kernel_rfl
 i51:=by kernel_rfl
 i53:=by kernel_rfl
 i171:=by kernel_rfl
 i173:=by kernel_rfl
 i212:=by kernel_rfl
 i232:=by kernel_rfl
 i233:=by kernel_rfl
 m17:=by kernel_rfl
 m18:=by kernel_rfl
 m19:=by kernel_rfl }
end Go.Proofs
namespace Go.Proofs.YtbgnflcebafjjaaGreatDoor
open Go.RowKit Go.Joins
set_option linter.unusedVariables false
def cm:Bool->List (List UInt8)->List UInt8
 | _,[]=>[]
 | first,a :: r=>(if first=true then [] else [44,32])++a++cm false r
theorem cm_snoc:∀(first:Bool) (l:List (List UInt8)) (a:List UInt8),cm first (l++[a])=cm first l++((if first=true/\l=[] then [] else [44,32])++a)
 | first,[],a=>by
  show (if first=true then [] else [44,32])++a++cm false []=_
  simp [cm]
 | first,b :: r,a=>by
  show (if first=true then [] else [44,32])++b++cm false (r++[a])=((if first=true then [] else [44,32])++b++cm false r)++_
  rw [cm_snoc false r a]
  simp
def vT (ns:List Tn):Nat->Nat->List UInt8
 | 0,_=>[]
 | f+1,t=>match ns[t]? with
  | none=>[]
  | some x=>if x.kd=1 then 91 :: cm true (x.ks.map (vT ns f))++[93] else if x.kd=3 then qt x.tx else if x.kd=4 then Lib.itoa x.nu else if x.kd=5 then Lib.formatBool (decide (x.nu=1)) else []
theorem vT_step (ns:List Tn) (f t:Nat) (ht:t < ns.length):vT ns (f+1) t=if ns[t].kd=1 then 91 :: cm true (ns[t].ks.map (vT ns f))++[93] else if ns[t].kd=3 then qt ns[t].tx else if ns[t].kd=4 then Lib.itoa ns[t].nu else if ns[t].kd=5 then Lib.formatBool (decide (ns[t].nu=1)) else []:=by
 show (match ns[t]? with | none=>[] | some x=>_)=_
 rw [List.getElem?_eq_getElem ht]
theorem fb_ne (b:Bool):Lib.formatBool b ≠ []:=by cases b <;> decide
end Go.Proofs.YtbgnflcebafjjaaGreatDoor
namespace Go.Proofs.YtbgnflcebafjjaaGreatDoor
open Go.RowKit Go.Maps Go.WideMaps Go.Joins
set_option linter.unusedVariables false
theorem gap_err (l:List UInt8):∀(f i:Nat) (c:Int) (p:Nat),gap l f i=.error (c,p)->c=2:=by
 intro f
 induction f with
 | zero=>intro i c p h;cases h;rfl
 | succ f ih =>
  intro i c p h
  rw [gap_step] at h
  split at h
  ·cases h;rfl
  ·split at h
   ·exact ih _ c p h
   ·cases h
def GtPost (B R T:Nat) (s:ByteArray) (E:Int->TypeId × Value) (own:List Nat) (now:Nat) (m:List Tn) (g:Rs Nat) (w:World) (e:Ending) (w':World):Prop:=(∀j,g=.ok j->e=.returned .nilIface/\Rd w' R s j T/\Tr w' B T m own now)/\(∀c p,g=.error (c,p)->∃F,e=.returned (.iface 65 (.pointer (some ⟨F,0,none⟩)))/\FaultE w' (.iface 65 (.pointer (some ⟨F,0,none⟩))) E c p)/\Below B w w'
theorem tGapT (B R T:Nat) (s:ByteArray) (E:Int->TypeId × Value) (own:List Nat) (now i:Nat) (m:List Tn) (w:World) (h:Rd w R s i T) (ht:Tr w B T m own now) (G:Gl w B E) (hR:B<=R) (hi:i<=s.size) (hs:s.size<=100000) :
  Calls Tryz.prog 122 #[.pointer (some ⟨R,0,none⟩)] w (GtPost B R T s E own now m (gap s.data.toList (s.data.toList.length+1) i) w) :=
 (tGap_any R s i T (E 2).1 (E 2).2 w h hi (by omega) G.es.te (far_of G.lo hR).te).mono fun e w' ⟨h1,h2,h3⟩=>⟨fun j hj=>⟨(h1 j hj).1,(h1 j hj).2,ht.keepR h h3⟩,fun c p hp=>by
  have hc:=gap_err _ _ _ _ _ hp
  subst hc
  obtain ⟨v,e1,F,rfl,hF⟩:=h2 2 p hp
  exact ⟨F,e1,F,rfl,hF⟩,gb_belo h3 hR ht.base⟩
def TkPost (B R T:Nat) (s:ByteArray) (E:Int->TypeId × Value) (own:List Nat) (now:Nat) (m:List Tn) (r:Rs Nat) (w:World) (e:Ending) (w':World):Prop:=(∀j,r=.ok j->e=.returned .nilIface/\Rd w' R s j T/\Tr w' B T m own now)/\(∀c p,r=.error (c,p)->∃F,e=.returned (.iface 65 (.pointer (some ⟨F,0,none⟩)))/\FaultE w' (.iface 65 (.pointer (some ⟨F,0,none⟩))) E c p)/\Below B w w'
theorem tTakeT (B R T:Nat) (s:ByteArray) (E:Int->TypeId × Value) (own:List Nat) (now i:Nat) (c:Int) (hc:0<=c) (m:List Tn) (w:World) (h:Rd w R s i T) (ht:Tr w B T m own now) (G:Gl w B E) (hR:B<=R) (hi:i<=s.size) (hs:s.size<=100000) :
  Calls Tryz.prog 45 #[.pointer (some ⟨R,0,none⟩),.int .i64 c] w (TkPost B R T s E own now m (must s.data.toList i c) w) :=
 (tTake_any R s i T c (E 2).1 (E 2).2 w h hi (by omega) hc G.es.te).mono fun e w' ⟨h1,h2,h3⟩=>by
  unfold must
  by_cases hx:nx s.data.toList i=c
  ·rw [if_pos hx]
   exact ⟨fun j hj=>(by cases hj;exact ⟨(h1 hx).1,(h1 hx).2,ht.keepR h h3⟩),fun c p hp=>(by cases hp),gb_belo h3 hR ht.base⟩
  ·rw [if_neg hx]
   obtain ⟨⟨v,e1,F,rfl,hF⟩,-⟩:=h2 hx
   exact ⟨fun j hj=>(by cases hj),fun c p hp=>(by cases hp;exact ⟨F,e1,F,rfl,hF⟩),gb_belo h3 hR ht.base⟩
theorem lst_step2 (l:List UInt8) (f i up d:Nat) (ns:List Tn):lst l (f+1) i up d ns =
  match gap l (l.length+1) i with
  | .error e=>.error e
  | .ok j =>
   if nx l j=93 then (match must l j 93 with | .error e=>.error e | .ok q=>.ok (q,ns))
   else match val l f j up [] j d ns with
    | .error e=>.error e
    | .ok (j1,ns1)=>match gap l (l.length+1) j1 with
     | .error e=>.error e
     | .ok j2=>if nx l j2=44 then lst l f (j2+1) up d ns1 else (match must l j2 93 with | .error e=>.error e | .ok q=>.ok (q,ns1)):=by
 rw [lst_step]
 cases gap l (l.length+1) i with
 | error e=>rfl
 | ok j =>
  simp only []
  by_cases h:nx l j=93
  ·rw [if_pos h,if_pos h]
   unfold must
   rw [if_pos h]
  ·rw [if_neg h,if_neg h]
   cases val l f j up [] j d ns with
   | error e=>rfl
   | ok q =>
    obtain ⟨j1,ns1⟩:=q
    simp only []
    cases gap l (l.length+1) j1 with
    | error e=>rfl
    | ok j2 =>
     simp only []
     by_cases h4:nx l j2=44
     ·rw [if_pos h4,if_pos h4]
     ·rw [if_neg h4,if_neg h4]
      unfold must
      by_cases h9:nx l j2=93
      ·rw [if_pos h9,if_pos h9]
      ·rw [if_neg h9,if_neg h9]
theorem vl_iface {B R T:Nat} {s:ByteArray} {E:Int->TypeId × Value} {own:List Nat} {now:Nat} {c:Int} {p:Nat} {w w':World} {e:Ending} (h:VlPost B R T s E own now (.error (c,p)) w e w'):∃F,e=.returned (.iface 65 (.pointer (some ⟨F,0,none⟩)))/\FaultE w' (.iface 65 (.pointer (some ⟨F,0,none⟩))) E c p:=by
 obtain ⟨v,e1,F,rfl,hF⟩:=h.2.1 c p rfl
 exact ⟨F,e1,F,rfl,hF⟩
structure Lk (B R T:Nat) (s:ByteArray) (own:List Nat) (now i up:Nat) (ns:List Tn) (w:World) (kx:Nat) (m:List Tn) (wr:World):Prop where
 rd:Rd wr R s kx T
 tr:Tr wr B T m own now
 wf:WF m own
 wt:WT m
 ul:up < m.length
 kd:kdAt m up=1
 le:kx<=s.size
 nn:m.length+i+1<=ns.length+kx
 be:Below B w wr
theorem Lk.gb {B R T:Nat} {s:ByteArray} {own:List Nat} {now i up:Nat} {ns:List Tn} {w:World} {kx:Nat} {m:List Tn} {wr w':World} (h:Lk B R T s own now i up ns w kx m wr) (hg:wr.grownBy w' none):Lk B R T s own now i up ns w kx m w':=⟨h.rd.grow hg,h.tr.gb hg,h.wf,h.wt,h.ul,h.kd,h.le,h.nn,h.be.trans (gb_b hg h.tr.base)⟩
theorem Lk.to {B R T:Nat} {s:ByteArray} {own:List Nat} {now i up:Nat} {ns:List Tn} {w:World} {kx j:Nat} {m:List Tn} {wr w':World} (h:Lk B R T s own now i up ns w kx m wr) (hr:Rd w' R s j T) (ht:Tr w' B T m own now) (hb:Below B wr w') (h1:kx<=j) (h2:j<=s.size):Lk B R T s own now i up ns w j m w':=⟨hr,ht,h.wf,h.wt,h.ul,h.kd,h2,by have:=h.nn;omega,h.be.trans hb⟩
theorem Lk.ad {B R T:Nat} {s:ByteArray} {own:List Nat} {now i up:Nat} {ns:List Tn} {w:World} {kx j:Nat} {m m1:List Tn} {wr w':World} (h:Lk B R T s own now i up ns w kx m wr) (A:Ad m m1 own kx j s.size) (hr:Rd w' R s j T) (ht:Tr w' B T m1 own now) (hb:Below B wr w'):Lk B R T s own now i up ns w j m1 w':=⟨hr,ht,A.wf,A.wt,Nat.lt_of_lt_of_le h.ul A.lo,(A.kd up h.ul).trans h.kd,A.en,by have:=h.nn;have:=A.hi;omega,h.be.trans hb⟩
set_option maxRecDepth 100000 in
set_option maxHeartbeats 6400000 in
theorem lst_of (F:Nat) (IH:∀f,f < F->ValC f):LstC F:=by
 intro B R T s E own now i up d ns w h htr G hR hi hs W V hu h1 hd hsz hF
 have hl:s.data.toList.length=s.size:=by simp
 have CG:Hid (∀kx m wr,Lk B R T s own now i up ns w kx m wr->Calls Tryz.prog 122 #[.pointer (some ⟨R,0,none⟩)] wr (GtPost B R T s E own now m (gap s.data.toList (s.data.toList.length+1) kx) wr)):=fun kx m wr L=>tGapT B R T s E own now kx m wr L.rd L.tr (G.bel L.be) hR L.le hs
 have CN:Hid (∀kx m wr,Lk B R T s own now i up ns w kx m wr->Calls Tryz.prog 40 #[.pointer (some ⟨R,0,none⟩)] wr fun e w'=>e=.returned (.int .i64 (nx s.data.toList kx))/\wr.grownBy w' none):=fun kx m wr L=>tNext_any R s kx T wr L.rd L.le (by omega)
 have CT:Hid (∀kx m wr,Lk B R T s own now i up ns w kx m wr->Calls Tryz.prog 45 #[.pointer (some ⟨R,0,none⟩),.int .i64 93] wr (TkPost B R T s E own now m (must s.data.toList kx 93) wr)):=fun kx m wr L=>tTakeT B R T s E own now kx 93 (by decide) m wr L.rd L.tr (G.bel L.be) hR L.le hs
 have CV:Hid (∀f kx m wr,f < F->2 * (s.size - kx)+1<=f->Lk B R T s own now i up ns w kx m wr->Calls Tryz.prog 77 #[.pointer (some ⟨R,0,none⟩),.int .i64 (up:Nat),.agg #[.string ⟨#[]⟩,.int .i64 (kx:Nat)],.int .i64 (d:Nat)] wr (VlPost B R T s E own now (val s.data.toList f kx up [] kx d m) wr)):=fun f kx m wr hf hkf L=>IH f hf B R T s E own now kx up [] kx d m wr L.rd L.tr (G.bel L.be) hR L.le hs L.wf L.wt L.ul (by rw [L.kd];decide) (fun e=>by rw [L.kd] at e;exact absurd e (by decide)) (by simp) hd (by have:=L.nn;have:=L.le;omega) hkf
 have HVO:Hid (∀f kx m j1 m1,kx<=s.size->WF m own->WT m->up < m.length->kdAt m up=1->val s.data.toList f kx up [] kx d m=.ok (j1,m1)->Ad m m1 own kx j1 s.size):=fun f kx m j1 m1 a1 a2 a3 a4 a5 a6=>by
  have:=(val_lst_ok s.data.toList own f).1 kx up [] kx d m j1 m1 (by omega) a2 a3 a4 (by rw [a5];decide) a6
  rw [hl] at this
  exact this
 have HGO:Hid (∀kx j,kx<=s.size->gap s.data.toList (s.data.toList.length+1) kx=.ok j->kx<=j/\j<=s.size):=fun kx j a b=>by
  have:=gap_ok s.data.toList _ kx j (by omega) b
  omega
 have HNX:Hid (∀kx,nx s.data.toList kx=44->kx < s.size):=fun kx a=>by
  have:=nx_lt (l:=s.data.toList) (i:=kx) (by rw [a];decide)
  omega
 have HST:Hid (∀f kx m,lst s.data.toList (f+1) kx up d m=_):=fun f kx m=>lst_step2 s.data.toList f kx up d m
 obtain ⟨S,hS⟩:∃S,lst s.data.toList F (i+1) up d ns=S:=⟨_,rfl⟩
 have HS:Hid (lst s.data.toList F (i+1) up d ns=S):=hS
 rw [hS]
 obtain ⟨-,r1,-,rf⟩:=h.cells
 have rf1:=rf 1
 have hset:Rd (w.setCell ⟨R,1,none⟩ (.int .i64 ((i:Int)+1))) R s (i+1) T:=h.set (i+1)
 have HL0:Hid (Lk B R T s own now i up ns w (i+1) ns (w.setCell ⟨R,1,none⟩ (.int .i64 ((i:Int)+1)))):=⟨hset,htr.keepR h (gb_setc w R 1 _),W,V,hu,h1,by omega,by omega,bel_set (Below.refl _ _) hR 1 _⟩
 clear h htr G W V hu h1 hS rf hset IH
 go_enter Tryz.func105,Tryz.ntmps105
 go_wp2
 go_loopw [] (fun wr=>∃(kx f:Nat) (m:List Tn),Lk B R T s own now i up ns w kx m wr/\2 * (s.size - kx)+2<=f/\f<=F/\lst s.data.toList f kx up d m=S) (fun wr=>s.size - (match wr.cell? ⟨R,1,none⟩ with | some (.int _ k)=>k.toNat | _=>0))
 case atStart=>exact ⟨i+1,F,ns,HL0.out,by omega,Nat.le_refl _,HS.out⟩
 case round =>
  obtain ⟨kx,f,m,hL,hf,hfF,hlst⟩:=hrel
  obtain ⟨f,rfl⟩:∃f',f=f'+1:=⟨f - 1,by omega⟩
  rw [HST.out] at hlst
  have HLS:Hid (_=S):=hlst
  have HL:Hid (Lk B R T s own now i up ns w kx m wr):=hL
  have C1:=CG.out kx m wr hL
  have HME:Hid ((match wr.cell? ⟨R,1,none⟩ with | some (.int _ k)=>k.toNat | _=>0)=kx):=by show _=_;rw [hL.rd.cells.2.1];simp
  have HG1:=HGO.out kx
  obtain ⟨g0,hg0⟩:∃g0,gap s.data.toList (s.data.toList.length+1) kx=g0:=⟨_,rfl⟩
  rw [hg0] at C1 HLS HG1
  have C1':Hid (Calls Tryz.prog 122 #[.pointer (some ⟨R,0,none⟩)] wr (GtPost B R T s E own now m g0 wr)):=C1
  have HG1':Hid (∀j,kx<=s.size->g0=.ok j->kx<=j/\j<=s.size):=HG1
  clear hL hlst C1 HG1 hg0
  go_wp2_with (first | (go_at_call 122;refine C1'.out.mono ?_))
  rintro e w2 ⟨p1,p2,p3⟩
  cases g0 with
  | error ec =>
   obtain ⟨ec1,ec2⟩:=ec
   obtain ⟨Fb,rfl,hFe⟩:=p2 ec1 ec2 rfl
   have HFE:Hid (FaultE w2 (.iface 65 (.pointer (some ⟨Fb,0,none⟩))) E ec1 ec2):=hFe
   have HSE:Hid (S=.error (ec1,ec2)):=HLS.out.symm
   have HBE:Hid (Below B w w2):=HL.out.be.trans p3
   clear p1 p2 p3 hFe
   go_wp2
   refine bodyPost_ret (results_tmp (t:=6) rfl _ _ _) rfl ?_
   rw [HSE.out]
   exact ⟨fun j ns hh=>(by cases hh),fun c p hh=>(by cases hh;exact ⟨_,rfl,HFE.out⟩),HBE.out⟩
  | ok j0 =>
   obtain ⟨rfl,hr2,ht2⟩:=p1 j0 rfl
   obtain ⟨gj1,gj2⟩:=HG1'.out j0 HL.out.le rfl
   have HL2:Hid (Lk B R T s own now i up ns w j0 m w2):=HL.out.to hr2 ht2 p3 gj1 gj2
   have C2:Hid (Calls Tryz.prog 40 #[.pointer (some ⟨R,0,none⟩)] w2 fun e w'=>e=.returned (.int .i64 (nx s.data.toList j0))/\w2.grownBy w' none):=CN.out j0 m w2 HL2.out
   have HLS2:=HLS.out
   simp only [] at HLS2
   have CT2:=CT.out j0 m
   have CV2:=CV.out f j0 m
   have HVO2:=HVO.out f j0 m
   obtain ⟨V0,hV0⟩:∃V0,val s.data.toList f j0 up [] j0 d m=V0:=⟨_,rfl⟩
   obtain ⟨MU,hMU⟩:∃MU,must s.data.toList j0 93=MU:=⟨_,rfl⟩
   rw [hMU] at HLS2 CT2
   rw [hV0] at HLS2 CV2 HVO2
   obtain ⟨x,hx⟩:∃x,nx s.data.toList j0=x:=⟨_,rfl⟩
   rw [hx] at C2 HLS2
   have HL3:Hid (_=S):=HLS2
   have CT3:Hid (∀wr,Lk B R T s own now i up ns w j0 m wr->Calls Tryz.prog 45 #[.pointer (some ⟨R,0,none⟩),.int .i64 93] wr (TkPost B R T s E own now m MU wr)):=CT2
   have CV3:Hid (∀wr,Lk B R T s own now i up ns w j0 m wr->Calls Tryz.prog 77 #[.pointer (some ⟨R,0,none⟩),.int .i64 (up:Nat),.agg #[.string ⟨#[]⟩,.int .i64 (j0:Nat)],.int .i64 (d:Nat)] wr (VlPost B R T s E own now V0 wr)):=fun wr L=>CV2 wr (by omega) (by omega) L
   have HVO3:Hid (∀j1 m1,V0=.ok (j1,m1)->Ad m m1 own j0 j1 s.size):=fun j1 m1 e=>HVO2 j1 m1 gj2 HL2.out.wf HL2.out.wt HL2.out.ul HL2.out.kd e
   clear p1 p2 p3 hr2 ht2 HLS HLS2 CT2 CV2 HVO2 hV0 hMU hx HG1'
   go_wp2_with (first | (go_at_call 40;refine C2.out.mono ?_))
   rintro e w3 ⟨rfl,hg3⟩
   have HLk3:Hid (Lk B R T s own now i up ns w j0 m w3):=HL2.out.gb hg3
   clear hg3
   by_cases c93:x=93
   ·have e93:(x == 93)=true:=by simp [c93]
    have HMS:Hid ((match (generalizing:=false) MU with | .error e=>.error e | .ok q=>.ok (q,m))=S):=by
     have:=HL3.out
     rw [if_pos c93] at this
     exact this
    clear c93
    go_wp2_with (first | (go_at_call 45;refine (CT3.out _ HLk3.out).mono ?_))
    rintro e w4 ⟨q1,q2,q3⟩
    cases MU with
    | error ec =>
     obtain ⟨ec1,ec2⟩:=ec
     obtain ⟨Fb,rfl,hFe⟩:=q2 ec1 ec2 rfl
     have HFE:Hid (FaultE w4 (.iface 65 (.pointer (some ⟨Fb,0,none⟩))) E ec1 ec2):=hFe
     have HSE:Hid (S=.error (ec1,ec2)):=HMS.out.symm
     have HBE:Hid (Below B w w4):=HLk3.out.be.trans q3
     clear q1 q2 q3 hFe
     go_wp2
     refine bodyPost_ret (results_tmp (t:=6) rfl _ _ _) rfl ?_
     rw [HSE.out]
     exact ⟨fun j ns hh=>(by cases hh),fun c p hh=>(by cases hh;exact ⟨_,rfl,HFE.out⟩),HBE.out⟩
    | ok jq =>
     obtain ⟨rfl,hrq,htq⟩:=q1 jq rfl
     have HRQ:Hid (Rd w4 R s jq T):=hrq
     have HTQ:Hid (Tr w4 B T m own now):=htq
     have HSE:Hid (S=.ok (jq,m)):=HMS.out.symm
     have HBE:Hid (Below B w w4):=HLk3.out.be.trans q3
     clear q1 q2 q3 hrq htq
     go_wp2
     refine bodyPost_ret (results_tmp (t:=6) rfl _ _ _) rfl ?_
     rw [HSE.out]
     exact ⟨fun j ns hh=>(by cases hh;exact ⟨rfl,HRQ.out,HTQ.out⟩),fun c p hh=>(by cases hh),HBE.out⟩
   ·have e93:(x == 93)=false:=by simp [c93]
    have HL4':=HL3.out
    rw [if_neg c93] at HL4'
    have HL4:Hid (_=S):=HL4'
    clear HL4'
    obtain ⟨-,r1c,-,-⟩:=HLk3.out.rd.cells
    clear c93 HL3
    go_wp2_with (first | (go_at_call 77;refine (CV3.out _ HLk3.out).mono ?_))
    intro e w4 hq
    cases V0 with
    | error ec =>
     obtain ⟨ec1,ec2⟩:=ec
     obtain ⟨Fb,rfl,hFe⟩:=vl_iface hq
     have HFE:Hid (FaultE w4 (.iface 65 (.pointer (some ⟨Fb,0,none⟩))) E ec1 ec2):=hFe
     have HSE:Hid (S=.error (ec1,ec2)):=HL4.out.symm
     have HBE:Hid (Below B w w4):=HLk3.out.be.trans hq.2.2
     clear hq hFe r1c
     go_wp2
     refine bodyPost_ret (results_tmp (t:=6) rfl _ _ _) rfl ?_
     rw [HSE.out]
     exact ⟨fun j ns hh=>(by cases hh),fun c p hh=>(by cases hh;exact ⟨_,rfl,HFE.out⟩),HBE.out⟩
    | ok jm =>
     obtain ⟨j1,m1⟩:=jm
     obtain ⟨rfl,hr4,ht4⟩:=hq.1 j1 m1 rfl
     have A:=HVO3.out j1 m1 rfl
     have hA1:=A.fw
     have hA2:=A.en
     have HLk4:Hid (Lk B R T s own now i up ns w j1 m1 w4):=HLk3.out.ad A hr4 ht4 hq.2.2
     have C5:=CG.out j1 m1 w4 HLk4.out
     have HG5:=HGO.out j1
     have HL5:=HL4.out
     simp only [] at HL5
     obtain ⟨g1,hg1⟩:∃g1,gap s.data.toList (s.data.toList.length+1) j1=g1:=⟨_,rfl⟩
     rw [hg1] at C5 HG5 HL5
     have C5':Hid (Calls Tryz.prog 122 #[.pointer (some ⟨R,0,none⟩)] w4 (GtPost B R T s E own now m1 g1 w4)):=C5
     have HG5':Hid (∀j,j1<=s.size->g1=.ok j->j1<=j/\j<=s.size):=HG5
     have HL5':Hid (_=S):=HL5
     clear C5 HG5 HL5 hg1 hq hr4 ht4 A r1c HL4
     go_wp2_with (first | (go_at_call 122;refine C5'.out.mono ?_))
     rintro e w5 ⟨p1,p2,p3⟩
     cases g1 with
     | error ec =>
      obtain ⟨ec1,ec2⟩:=ec
      obtain ⟨Fb,rfl,hFe⟩:=p2 ec1 ec2 rfl
      have HFE:Hid (FaultE w5 (.iface 65 (.pointer (some ⟨Fb,0,none⟩))) E ec1 ec2):=hFe
      have HSE:Hid (S=.error (ec1,ec2)):=HL5'.out.symm
      have HBE:Hid (Below B w w5):=HLk4.out.be.trans p3
      clear p1 p2 p3 hFe
      go_wp2
      refine bodyPost_ret (results_tmp (t:=6) rfl _ _ _) rfl ?_
      rw [HSE.out]
      exact ⟨fun j ns hh=>(by cases hh),fun c p hh=>(by cases hh;exact ⟨_,rfl,HFE.out⟩),HBE.out⟩
     | ok j2 =>
      obtain ⟨rfl,hr5,ht5⟩:=p1 j2 rfl
      obtain ⟨hj1,hj2⟩:=HG5'.out j2 HLk4.out.le rfl
      have HLk5:Hid (Lk B R T s own now i up ns w j2 m1 w5):=HLk4.out.to hr5 ht5 p3 hj1 hj2
      have C6:Hid (Calls Tryz.prog 40 #[.pointer (some ⟨R,0,none⟩)] w5 fun e w'=>e=.returned (.int .i64 (nx s.data.toList j2))/\w5.grownBy w' none):=CN.out j2 m1 w5 HLk5.out
      have HL6:=HL5'.out
      simp only [] at HL6
      have CT6:=CT.out j2 m1
      have HN6:Hid (nx s.data.toList j2=44->j2 < s.size):=HNX.out j2
      obtain ⟨MU,hMU⟩:∃MU,must s.data.toList j2 93=MU:=⟨_,rfl⟩
      rw [hMU] at HL6 CT6
      obtain ⟨y,hy⟩:∃y,nx s.data.toList j2=y:=⟨_,rfl⟩
      rw [hy] at C6 HL6 HN6
      have HL6':Hid (_=S):=HL6
      have CT6':Hid (∀wr,Lk B R T s own now i up ns w j2 m1 wr->Calls Tryz.prog 45 #[.pointer (some ⟨R,0,none⟩),.int .i64 93] wr (TkPost B R T s E own now m1 MU wr)):=CT6
      clear p1 p2 p3 hr5 ht5 HL6 CT6 hMU hy HL5' HG5'
      go_wp2_with (first | (go_at_call 40;refine C6.out.mono ?_))
      rintro e w6 ⟨rfl,hg6⟩
      have HLk6:Hid (Lk B R T s own now i up ns w j2 m1 w6):=HLk5.out.gb hg6
      clear hg6
      by_cases c44:y=44
      ·have e44:(y != 44)=false:=by simp [c44]
       have hjl:=HN6.out c44
       have HNX6:Hid (lst s.data.toList f (j2+1) up d m1=S):=by
        have:=HL6'.out
        rw [if_pos c44] at this
        exact this
       obtain ⟨-,r16,-,rf6⟩:=HLk6.out.rd.cells
       have rf61:=rf6 1
       have HS6:Hid (Rd (w6.setCell ⟨R,1,none⟩ (.int .i64 ((j2:Int)+1))) R s (j2+1) T):=HLk6.out.rd.set (j2+1)
       have HLk7:Hid (Lk B R T s own now i up ns w (j2+1) m1 (w6.setCell ⟨R,1,none⟩ (.int .i64 ((j2:Int)+1)))):=HLk6.out.to HS6.out (HLk6.out.tr.keepR HLk6.out.rd (gb_setc w6 R 1 _)) (bel_set (Below.refl _ _) hR 1 _) (by omega) (by omega)
       clear c44 rf6
       go_wp2
       refine ⟨⟨j2+1,f,m1,HLk7.out,by omega,by omega,HNX6.out⟩,?_⟩
       rw [HME.out,HS6.out.cells.2.1]
       simp
       omega
      ·have e44:(y != 44)=true:=by simp [c44]
       have HMS:Hid ((match (generalizing:=false) MU with | .error e=>.error e | .ok q=>.ok (q,m1))=S):=by
        have:=HL6'.out
        rw [if_neg c44] at this
        exact this
       clear c44
       go_wp2_with (first | (go_at_call 45;refine (CT6'.out _ HLk6.out).mono ?_))
       rintro e w7 ⟨q1,q2,q3⟩
       cases MU with
       | error ec =>
        obtain ⟨ec1,ec2⟩:=ec
        obtain ⟨Fb,rfl,hFe⟩:=q2 ec1 ec2 rfl
        have HFE:Hid (FaultE w7 (.iface 65 (.pointer (some ⟨Fb,0,none⟩))) E ec1 ec2):=hFe
        have HSE:Hid (S=.error (ec1,ec2)):=HMS.out.symm
        have HBE:Hid (Below B w w7):=HLk6.out.be.trans q3
        clear q1 q2 q3 hFe
        go_wp2
        refine bodyPost_ret (results_tmp (t:=6) rfl _ _ _) rfl ?_
        rw [HSE.out]
        exact ⟨fun j ns hh=>(by cases hh),fun c p hh=>(by cases hh;exact ⟨_,rfl,HFE.out⟩),HBE.out⟩
       | ok jq =>
        obtain ⟨rfl,hrq,htq⟩:=q1 jq rfl
        have HRQ:Hid (Rd w7 R s jq T):=hrq
        have HTQ:Hid (Tr w7 B T m1 own now):=htq
        have HSE:Hid (S=.ok (jq,m1)):=HMS.out.symm
        have HBE:Hid (Below B w w7):=HLk6.out.be.trans q3
        clear q1 q2 q3 hrq htq
        go_wp2
        refine bodyPost_ret (results_tmp (t:=6) rfl _ _ _) rfl ?_
        rw [HSE.out]
        exact ⟨fun j ns hh=>(by cases hh;exact ⟨rfl,HRQ.out,HTQ.out⟩),fun c p hh=>(by cases hh),HBE.out⟩
theorem wrap_d (d:Nat) (h:d<=8):IntKind.i64.wrap ((d:Int)+1)=(d:Int)+1:=by
 rw [IntKind.wrap_i64]
 omega
theorem vl_ret {B R T:Nat} {s:ByteArray} {E:Int->TypeId × Value} {own:List Nat} {now:Nat} {r:Rs (Nat × List Tn)} {w w' w'':World} {e:Ending} (hb:Below B w w') (h:VlPost B R T s E own now r w' e w''):∃v,e=.returned v/\Hid (VlPost B R T s E own now r w (.returned v) w''):=by
 cases r with
 | error ec =>
  obtain ⟨c,p⟩:=ec
  obtain ⟨v,rfl,hv⟩:=h.2.1 c p rfl
  exact ⟨v,rfl,fun j ns hh=>(by cases hh),fun c p hh=>(by cases hh;exact ⟨v,rfl,hv⟩),hb.trans h.2.2⟩
 | ok q =>
  obtain ⟨j,ns⟩:=q
  obtain ⟨rfl,h1,h2⟩:=h.1 j ns rfl
  exact ⟨_,rfl,fun j ns hh=>(by cases hh;exact ⟨rfl,h1,h2⟩),fun c p hh=>(by cases hh),hb.trans h.2.2⟩
set_option maxRecDepth 100000 in
set_option maxHeartbeats 6400000 in
theorem val_of (F:Nat) (IH:LstC F):ValC (F+1):=by
 intro B R T s E own now i up k p d ns w h htr G hR hi hs W V hu h2 hfree hk hd hsz hF
 have hB:B<=w.heap.size:=htr.base
 have hl:s.data.toList.length=s.size:=by simp
 have CN:Hid (∀k w,Rd w R s k T->k<=s.size->Calls Tryz.prog 40 #[.pointer (some ⟨R,0,none⟩)] w fun e w'=>e=.returned (.int .i64 (nx s.data.toList k))/\w.grownBy w' none):=fun k w h1 h2=>tNext_any R s k T w h1 h2 (by omega)
 have CD:Hid (∀c w,Calls Tryz.prog 74 #[.int .i64 c] w fun e w'=>e=.returned (.bool (isDg c))/\w'=w):=tDigit_any
 have CA:Hid (∀(kd:Int) w',Tr w' B T ns own now->Calls Tryz.prog 102 #[.pointer (some ⟨T,0,none⟩),.int .i64 (up:Nat),.int .i64 kd,.agg #[.string ⟨k.toArray⟩,.int .i64 (p:Nat)]] w' (AdPost B T ns own now up ⟨kd,k,[],0,[],p⟩ w')):=fun kd w' h'=>tAdd_any B T ns own now up kd k p w' h' W hu hfree (by omega) hk
 have CH:Hid (∀w',Below B w w'->Rd w' R s i T->Calls Tryz.prog 79 #[.pointer (some ⟨R,0,none⟩)] w' fun e w''=>(∃v,e=.returned v/\FaultE w'' v E 2 i)/\w'.grownBy w'' none):=fun w' hb hr=>(tHere_any R s i T (E 2).1 (E 2).2 w' hr (G.bel hb).es.te).mono fun e w'' h=>h
 have CW:Hid (∀w,Calls Tryz.prog 101 #[.iface (E 4).1 (E 4).2,.int .i64 (i:Nat)] w fun e w'=>(∃v,e=.returned v/\FaultE w' v E 4 i)/\w.grownBy w' none):=fun w=>tWrong_any i (E 4).1 (E 4).2 w
 have CQ:Hid (nx s.data.toList i=34->∀w',Below B w w'->Rd w' R s i T->Calls Tryz.prog 99 #[.pointer (some ⟨R,0,none⟩)] w' (StPost R s T E (str s.data.toList (s.data.toList.length+1) (i+1) []) w')):=fun hx w' hb hr=>tQuoted_any R s i T E w' hr (by have:=nx_lt (l:=s.data.toList) (i:=i) (by rw [hx];decide);omega) (by omega) (G.bel hb).es (far_of G.lo hR) (G.bel hb).tabs (by have:=G.t3;omega) (by have:=G.t4;omega)
 have CI:Hid ((nx s.data.toList i=43\/nx s.data.toList i=45\/isDg (nx s.data.toList i)=true)->∀w',Below B w w'->Rd w' R s i T->Calls Tryz.prog 103 #[.pointer (some ⟨R,0,none⟩)] w' (NuPost R s T E (rdInt s.data.toList i) w')):=fun hx w' hb hr=>tInteger_any R s i T E w' hr (by omega) (G.bel hb).es (far_of G.lo hR) (by rcases hx with h | h | h;exact Or.inr (Or.inl h);exact Or.inr (Or.inr h);exact Or.inl h)
 have CT:Hid (∀w',Below B w w'->Rd w' R s i T->Calls Tryz.prog 104 #[.pointer (some ⟨R,0,none⟩)] w' (NuPost R s T E (rdTru s.data.toList i) w')):=fun w' hb hr=>tTruth_any R s i T E w' hr hi (by omega) (G.bel hb).es (far_of G.lo hR)
 have CL:Hid (nx s.data.toList i=91->¬ d=8->∀w',Below B w w'->Rd w' R s i T->Tr w' B T (addN ns up ⟨1,k,[],0,[],p⟩) own now->Calls Tryz.prog 105 #[.pointer (some ⟨R,0,none⟩),.int .i64 (ns.length:Nat),.int .i64 ((d+1:Nat):Int)] w' (VlPost B R T s E own now (lst s.data.toList F (i+1) ns.length (d+1) (addN ns up ⟨1,k,[],0,[],p⟩)) w')):=fun hx hd8 w' hb hr ht=>by
  have hlt:i < s.size:=by have:=nx_lt (l:=s.data.toList) (i:=i) (by rw [hx];decide);omega
  have A:=ad_one (i:=i) (j:=i+1) (n:=s.size) (x:=⟨1,k,[],0,[],p⟩) W V hu h2 rfl (fun e=>absurd (show (1:Int)=2 from e) (by decide)) (by omega) (by omega)
  exact IH B R T s E own now i ns.length (d+1) _ w' hr ht (G.bel hb) hR hlt hs A.wf A.wt (by rw [addN_len];omega) (by rw [kdAt_addN ns up _ hu,if_pos rfl]) (by omega) (by rw [addN_len];omega) (by omega)
 have HMA:Hid (∀w',Below B w w'->w'.cell? ⟨2,0,none⟩=some (.iface (E 4).1 (E 4).2)):=fun w' hb=>(G.bel hb).es.ma
 have HVS:=val_step s.data.toList F i up k p d ns
 have HV:Hid (val s.data.toList (F+1) i up k p d ns=_):=HVS
 obtain ⟨S,hS⟩:∃S,val s.data.toList (F+1) i up k p d ns=S:=⟨_,rfl⟩
 rw [hS] at HV ⊢
 obtain ⟨SQ,hSQ⟩:∃SQ,str s.data.toList (s.data.toList.length+1) (i+1) []=SQ:=⟨_,rfl⟩
 obtain ⟨SI,hSI⟩:∃SI,rdInt s.data.toList i=SI:=⟨_,rfl⟩
 obtain ⟨SU,hSU⟩:∃SU,rdTru s.data.toList i=SU:=⟨_,rfl⟩
 rw [hSQ] at CQ HV
 rw [hSI] at CI HV
 rw [hSU] at CT HV
 have hgK:w.grownBy (w.alloc (.cells #[.string ⟨k.toArray⟩,.int .i64 (p:Nat)] 133)) none:=World.grownBy_alloc w _ none
 have hbK:=heap_alloc_new w (.cells #[.string ⟨k.toArray⟩,.int .i64 (p:Nat)] 133)
 obtain ⟨K,hKe⟩:∃K,w.heap.size=K:=⟨_,rfl⟩
 rw [hKe] at hbK
 obtain ⟨w1,hw1⟩:∃w1,w.alloc (.cells #[.string ⟨k.toArray⟩,.int .i64 (p:Nat)] 133)=w1:=⟨_,rfl⟩
 rw [hw1] at hgK hbK
 have H1:Hid (Rd w1 R s i T):=h.grow hgK
 have C1:Hid (Calls Tryz.prog 40 #[.pointer (some ⟨R,0,none⟩)] w1 fun e w'=>e=.returned (.int .i64 (nx s.data.toList i))/\w1.grownBy w' none):=CN.out i w1 H1.out hi
 obtain ⟨x,hx⟩:∃x,nx s.data.toList i=x:=⟨_,rfl⟩
 rw [hx] at C1 HV CQ CI CL
 have HG1:Hid (w.grownBy w1 none):=hgK
 have HK1:Hid (w1.heap[K]?=some (.cells #[.string ⟨k.toArray⟩,.int .i64 (p:Nat)] 133 (0,0))):=hbK
 have HTR:Hid (Tr w B T ns own now):=htr
 clear HVS hS hSQ hSI hSU hgK hbK hx h htr G W V h2 hfree IH
 go_enter Tryz.func77,Tryz.ntmps77
 go_wp2_with (first | (go_at_call 40;refine C1.out.mono ?_))
 rintro e w2 ⟨rfl,hg2⟩
 have HG2:Hid (w.grownBy w2 none):=gb_trans HG1.out hg2
 have HR2:Hid (Rd w2 R s i T):=H1.out.grow hg2
 have HK2:Hid (w2.heap[K]?=some (.cells #[.string ⟨k.toArray⟩,.int .i64 (p:Nat)] 133 (0,0))):=blk_gb HK1.out hg2
 have HT2:Hid (Tr w2 B T ns own now):=HTR.out.gb HG2.out
 obtain ⟨-,r1,r2,-⟩:=HR2.out.cells
 obtain ⟨k0,k1,-⟩:=two_cells HK2.out
 clear hg2
 by_cases c34:x=34
 ·have hb34:(x == 34)=true:=by simp [c34]
  have CQ1:=CQ.out c34
  have CQ2:Hid (∀w',Below B w w'->Rd w' R s i T->Calls Tryz.prog 99 #[.pointer (some ⟨R,0,none⟩)] w' (StPost R s T E SQ w')):=CQ1
  have HLF:Hid (S=match (generalizing:=false) SQ with | .error e=>.error e | .ok (t,j)=>.ok (j,addN ns up ⟨3,k,t,0,[],p⟩)):=(by show _=_;rw [HV.out,if_pos c34];try rfl)
  clear c34 CQ1 HV CI CT CL
  go_upto_region 3 with fail
  go_cut [10] from 24 (fun v wx=>v=.int .i64 (ns.length:Nat)/\Tr wx B T (addN ns up ⟨3,k,[],0,[],p⟩) own now/\Rd wx R s i T/\Below B w wx)
  case first =>
   go_region_with (first | (go_at_call 102;refine (CA.out 3 _ (HT2.out.gb (gb_d w2))).mono ?_;rintro e w3 ⟨rfl,ht3,hf3⟩))
   all_goals (
    go_wp2_with fail
    go_meet
    exact ⟨rfl,ht3,Rd.fr (w:=w2.drew) HR2.out hf3,(gb_b HG2.out hB).trans (Below.trans (gb_b (gb_d w2) (Nat.le_trans hB HG2.out.size)) hf3.bel)⟩)
  case rest =>
   obtain ⟨rfl,ht3,hr3,hb3⟩:=hcut
   have HT3:Hid (Tr wc B T (addN ns up ⟨3,k,[],0,[],p⟩) own now):=ht3
   have HB3:Hid (Below B w wc):=hb3
   have HR3:Hid (Rd wc R s i T):=hr3
   clear ht3 hr3 hb3 r1 r2 k0 k1
   go_wp2_with (first | (go_at_call 99;refine (CQ2.out _ HB3.out HR3.out).mono ?_))
   rintro e w4 ⟨p1,p2,p3⟩
   have HT4:Hid (Tr w4 B T (addN ns up ⟨3,k,[],0,[],p⟩) own now):=HT3.out.keepR HR3.out p3
   have HB4:Hid (Below B w w4):=HB3.out.trans (gb_belo p3 hR HT3.out.base)
   obtain ⟨N,cc,t0,⟨cs,hN⟩,hBN,n2,n3,s2,s3⟩:=HT4.out.last
   have HN:Hid (w4.heap[N]?=some (.cells cs 33 (0,0))):=hN
   have hnf:w4.frozen? ⟨N,ns.length * 6+2,none⟩=false:=Lib.frozen_of_heap hN _
   have HSET:Hid (∀t:List UInt8,Tr (w4.setCell ⟨N,ns.length * 6+2,none⟩ (.string ⟨t.toArray⟩)) B T (addN ns up ⟨3,k,t,0,[],p⟩) own now):=s2
   have hnl:ns.length < ns.length+1:=by omega
   cases SQ with
   | error ec =>
    obtain ⟨ec1,ec2⟩:=ec
    obtain ⟨v,rfl,hv,jj,hjj⟩:=p2 ec1 ec2 rfl
    obtain ⟨-,-,hrr,-⟩:=hjj.cells
    have HFV:Hid (FaultE w4 v E ec1 ec2):=hv
    have HSE:Hid (S=.error (ec1,ec2)):=HLF.out
    clear p1 p2 p3 hv hN s2 s3 hjj
    go_wp2
    refine bodyPost_ret (results_tmp (t:=8) rfl _ _ _) rfl ?_
    rw [HSE.out]
    exact ⟨fun j ns hh=>(by cases hh),fun c p hh=>(by cases hh;exact ⟨v,rfl,faultE_node HFV.out HN.out⟩),bel_set HB4.out hBN _ _⟩
   | ok q =>
    obtain ⟨tx,j⟩:=q
    obtain ⟨rfl,hr4⟩:=p1 tx j rfl
    have HR4:Hid (Rd w4 R s j T):=hr4
    obtain ⟨-,-,hrr,-⟩:=hr4.cells
    have HSE:Hid (S=.ok (j,addN ns up ⟨3,k,tx,0,[],p⟩)):=HLF.out
    clear p1 p2 p3 hr4 hN s2 s3
    go_wp2
    refine bodyPost_ret (results_tmp (t:=8) rfl _ _ _) rfl ?_
    rw [HSE.out]
    exact ⟨fun j ns hh=>(by cases hh;exact ⟨rfl,HR4.out.node HN.out,HSET.out tx⟩),fun c p hh=>(by cases hh),bel_set HB4.out hBN _ _⟩
 ·have hb34:(x == 34)=false:=by simp [c34]
  have HV1:Hid (S=if x=43\/x=45\/isDg x=true then (match (generalizing:=false) SI with | .error e=>.error e | .ok (n,j)=>.ok (j,addN ns up ⟨4,k,[],n,[],p⟩)) else if x=116\/x=102 then (match (generalizing:=false) SU with | .error e=>.error e | .ok (n,j)=>.ok (j,addN ns up ⟨5,k,[],n,[],p⟩)) else if x=91 then (if d=8 then .error (4,i) else lst s.data.toList F (i+1) ns.length (d+1) (addN ns up ⟨1,k,[],0,[],p⟩)) else .error (2,i)):=(by show _=_;rw [HV.out,if_neg c34];try rfl)
  clear c34 HV CQ
  obtain ⟨bI,hbI⟩:∃bI,decide (x=43\/x=45\/isDg x=true)=bI:=⟨_,rfl⟩
  have HBI:Hid (decide (x=43\/x=45\/isDg x=true)=bI):=hbI
  clear hbI
  go_upto_region 7 with fail
  go_cut [48] from 49 (fun v wx=>v=.bool bI/\wx=w2)
  case first =>
   by_cases a1:x=43
   ·have e1:(x == 43)=true:=by simp [a1]
    have e2:bI=true:=by rw [<-HBI.out];simp [a1]
    subst e2
    clear a1
    go_wp2
    go_meet
    exact ⟨rfl,rfl⟩
   ·have e1:(x == 43)=false:=by simp [a1]
    by_cases a2:x=45
    ·have e3:(x == 45)=true:=by simp [a2]
     have e2:bI=true:=by rw [<-HBI.out];simp [a2]
     subst e2
     clear a1 a2
     go_wp2
     go_meet
     exact ⟨rfl,rfl⟩
    ·have e3:(x == 45)=false:=by simp [a2]
     have CD1:Hid (∀w,Calls Tryz.prog 74 #[.int .i64 x] w fun e w'=>e=.returned (.bool (isDg x))/\w'=w):=fun w=>CD.out x w
     have e2:isDg x=bI:=by rw [<-HBI.out];simp [a1,a2]
     rw [e2] at CD1
     clear a1 a2 e2
     go_wp2_with (first | (go_at_call 74;refine (CD1.out _).mono ?_;rintro e w' ⟨rfl,rfl⟩))
     go_meet
     exact ⟨rfl,rfl⟩
  case rest =>
   obtain ⟨rfl,rfl⟩:=hcut
   obtain ⟨w2,hw2⟩:∃w2,w2=wc:=⟨_,rfl⟩
   subst hw2
   cases bI with
   | true =>
    have hI:=of_decide_eq_true HBI.out
    have CI2:Hid (∀w',Below B w w'->Rd w' R s i T->Calls Tryz.prog 103 #[.pointer (some ⟨R,0,none⟩)] w' (NuPost R s T E SI w')):=CI.out hI
    have HLF:Hid (S=match (generalizing:=false) SI with | .error e=>.error e | .ok (n,j)=>.ok (j,addN ns up ⟨4,k,[],n,[],p⟩)):=(by show _=_;rw [HV1.out,if_pos hI];try rfl)
    clear hI CI CT CL HV1
    go_upto_region 8 with fail
    go_cut [13] from 59 (fun v wx=>v=.int .i64 (ns.length:Nat)/\Tr wx B T (addN ns up ⟨4,k,[],0,[],p⟩) own now/\Rd wx R s i T/\Below B w wx)
    case first =>
     go_region_with (first | (go_at_call 102;refine (CA.out 4 _ (HT2.out.gb (gb_d w2))).mono ?_;rintro e w3 ⟨rfl,ht3,hf3⟩))
     all_goals (
      go_wp2_with fail
      go_meet
      exact ⟨rfl,ht3,Rd.fr (w:=w2.drew) HR2.out hf3,(gb_b HG2.out hB).trans (Below.trans (gb_b (gb_d w2) (Nat.le_trans hB HG2.out.size)) hf3.bel)⟩)
    case rest =>
     obtain ⟨rfl,ht3,hr3,hb3⟩:=hcut
     have HT3:Hid (Tr wc B T (addN ns up ⟨4,k,[],0,[],p⟩) own now):=ht3
     have HB3:Hid (Below B w wc):=hb3
     have HR3:Hid (Rd wc R s i T):=hr3
     clear ht3 hr3 hb3 r1 r2 k0 k1
     go_wp2_with (first | (go_at_call 103;refine (CI2.out _ HB3.out HR3.out).mono ?_))
     rintro e w4 ⟨p1,p2,p3⟩
     have HT4:Hid (Tr w4 B T (addN ns up ⟨4,k,[],0,[],p⟩) own now):=HT3.out.keepR HR3.out p3
     have HB4:Hid (Below B w w4):=HB3.out.trans (gb_belo p3 hR HT3.out.base)
     obtain ⟨N,cc,t0,⟨cs,hN⟩,hBN,n2,n3,s2,s3⟩:=HT4.out.last
     have HN:Hid (w4.heap[N]?=some (.cells cs 33 (0,0))):=hN
     have hnf:w4.frozen? ⟨N,ns.length * 6+3,none⟩=false:=Lib.frozen_of_heap hN _
     have HSET:Hid (∀t:Int,Tr (w4.setCell ⟨N,ns.length * 6+3,none⟩ (.int .i64 t)) B T (addN ns up ⟨4,k,[],t,[],p⟩) own now):=s3
     have hnl:ns.length < ns.length+1:=by omega
     cases SI with
     | error ec =>
      obtain ⟨ec1,ec2⟩:=ec
      obtain ⟨v,rfl,hv,jj,hjj⟩:=p2 ec1 ec2 rfl
      obtain ⟨-,-,hrr,-⟩:=hjj.cells
      have HFV:Hid (FaultE w4 v E ec1 ec2):=hv
      have HSE:Hid (S=.error (ec1,ec2)):=HLF.out
      clear p1 p2 p3 hv hN s2 s3 hjj
      go_wp2
      refine bodyPost_ret (results_tmp (t:=8) rfl _ _ _) rfl ?_
      rw [HSE.out]
      exact ⟨fun j ns hh=>(by cases hh),fun c p hh=>(by cases hh;exact ⟨v,rfl,faultE_node HFV.out HN.out⟩),bel_set HB4.out hBN _ _⟩
     | ok q =>
      obtain ⟨tx,j⟩:=q
      obtain ⟨rfl,hr4⟩:=p1 tx j rfl
      have HR4:Hid (Rd w4 R s j T):=hr4
      obtain ⟨-,-,hrr,-⟩:=hr4.cells
      have HSE:Hid (S=.ok (j,addN ns up ⟨4,k,[],tx,[],p⟩)):=HLF.out
      clear p1 p2 p3 hr4 hN s2 s3
      go_wp2
      refine bodyPost_ret (results_tmp (t:=8) rfl _ _ _) rfl ?_
      rw [HSE.out]
      exact ⟨fun j ns hh=>(by cases hh;exact ⟨rfl,HR4.out.node HN.out,HSET.out tx⟩),fun c p hh=>(by cases hh),bel_set HB4.out hBN _ _⟩
   | false =>
    have hI:=of_decide_eq_false HBI.out
    have HV2:Hid (S=if x=116\/x=102 then (match (generalizing:=false) SU with | .error e=>.error e | .ok (n,j)=>.ok (j,addN ns up ⟨5,k,[],n,[],p⟩)) else if x=91 then (if d=8 then .error (4,i) else lst s.data.toList F (i+1) ns.length (d+1) (addN ns up ⟨1,k,[],0,[],p⟩)) else .error (2,i)):=(by show _=_;rw [HV1.out,if_neg hI];try rfl)
    clear hI HV1 CI HBI
    obtain ⟨bU,hbU⟩:∃bU,decide (x=116\/x=102)=bU:=⟨_,rfl⟩
    have HBU:Hid (decide (x=116\/x=102)=bU):=hbU
    clear hbU
    go_upto_region 12 with fail
    go_cut [83] from 84 (fun v wx=>v=.bool bU/\wx=w2)
    case first =>
     by_cases a1:x=116
     ·have e1:(x == 116)=true:=by simp [a1]
      have e2:bU=true:=by rw [<-HBU.out];simp [a1]
      subst e2
      clear a1
      go_wp2
      go_meet
      exact ⟨rfl,rfl⟩
     ·have e1:(x == 116)=false:=by simp [a1]
      have e2:(x == 102)=bU:=by rw [<-HBU.out];by_cases h:x=102 <;> simp [a1,h]
      clear a1
      go_wp2
      go_meet
      exact ⟨rfl,rfl⟩
    case rest =>
     obtain ⟨rfl,rfl⟩:=hcut
     obtain ⟨w2,hw2⟩:∃w2,w2=wc:=⟨_,rfl⟩
     subst hw2
     cases bU with
     | true =>
      have hU:=of_decide_eq_true HBU.out
      have HLF:Hid (S=match (generalizing:=false) SU with | .error e=>.error e | .ok (n,j)=>.ok (j,addN ns up ⟨5,k,[],n,[],p⟩)):=(by show _=_;rw [HV2.out,if_pos hU];try rfl)
      clear hU CL HV2
      go_upto_region 13 with fail
      go_cut [16] from 90 (fun v wx=>v=.int .i64 (ns.length:Nat)/\Tr wx B T (addN ns up ⟨5,k,[],0,[],p⟩) own now/\Rd wx R s i T/\Below B w wx)
      case first =>
       go_region_with (first | (go_at_call 102;refine (CA.out 5 _ (HT2.out.gb (gb_d w2))).mono ?_;rintro e w3 ⟨rfl,ht3,hf3⟩))
       all_goals (
        go_wp2_with fail
        go_meet
        exact ⟨rfl,ht3,Rd.fr (w:=w2.drew) HR2.out hf3,(gb_b HG2.out hB).trans (Below.trans (gb_b (gb_d w2) (Nat.le_trans hB HG2.out.size)) hf3.bel)⟩)
      case rest =>
       obtain ⟨rfl,ht3,hr3,hb3⟩:=hcut
       have HT3:Hid (Tr wc B T (addN ns up ⟨5,k,[],0,[],p⟩) own now):=ht3
       have HB3:Hid (Below B w wc):=hb3
       have HR3:Hid (Rd wc R s i T):=hr3
       clear ht3 hr3 hb3 r1 r2 k0 k1
       go_wp2_with (first | (go_at_call 104;refine (CT.out _ HB3.out HR3.out).mono ?_))
       rintro e w4 ⟨p1,p2,p3⟩
       have HT4:Hid (Tr w4 B T (addN ns up ⟨5,k,[],0,[],p⟩) own now):=HT3.out.keepR HR3.out p3
       have HB4:Hid (Below B w w4):=HB3.out.trans (gb_belo p3 hR HT3.out.base)
       obtain ⟨N,cc,t0,⟨cs,hN⟩,hBN,n2,n3,s2,s3⟩:=HT4.out.last
       have HN:Hid (w4.heap[N]?=some (.cells cs 33 (0,0))):=hN
       have hnf:w4.frozen? ⟨N,ns.length * 6+3,none⟩=false:=Lib.frozen_of_heap hN _
       have HSET:Hid (∀t:Int,Tr (w4.setCell ⟨N,ns.length * 6+3,none⟩ (.int .i64 t)) B T (addN ns up ⟨5,k,[],t,[],p⟩) own now):=s3
       have hnl:ns.length < ns.length+1:=by omega
       cases SU with
       | error ec =>
        obtain ⟨ec1,ec2⟩:=ec
        obtain ⟨v,rfl,hv,jj,hjj⟩:=p2 ec1 ec2 rfl
        obtain ⟨-,-,hrr,-⟩:=hjj.cells
        have HFV:Hid (FaultE w4 v E ec1 ec2):=hv
        have HSE:Hid (S=.error (ec1,ec2)):=HLF.out
        clear p1 p2 p3 hv hN s2 s3 hjj
        go_wp2
        refine bodyPost_ret (results_tmp (t:=8) rfl _ _ _) rfl ?_
        rw [HSE.out]
        exact ⟨fun j ns hh=>(by cases hh),fun c p hh=>(by cases hh;exact ⟨v,rfl,faultE_node HFV.out HN.out⟩),bel_set HB4.out hBN _ _⟩
       | ok q =>
        obtain ⟨tx,j⟩:=q
        obtain ⟨rfl,hr4⟩:=p1 tx j rfl
        have HR4:Hid (Rd w4 R s j T):=hr4
        obtain ⟨-,-,hrr,-⟩:=hr4.cells
        have HSE:Hid (S=.ok (j,addN ns up ⟨5,k,[],tx,[],p⟩)):=HLF.out
        clear p1 p2 p3 hr4 hN s2 s3
        go_wp2
        refine bodyPost_ret (results_tmp (t:=8) rfl _ _ _) rfl ?_
        rw [HSE.out]
        exact ⟨fun j ns hh=>(by cases hh;exact ⟨rfl,HR4.out.node HN.out,HSET.out tx⟩),fun c p hh=>(by cases hh),bel_set HB4.out hBN _ _⟩
     | false =>
      have hU:=of_decide_eq_false HBU.out
      have HV3:Hid (S=if x=91 then (if d=8 then .error (4,i) else lst s.data.toList F (i+1) ns.length (d+1) (addN ns up ⟨1,k,[],0,[],p⟩)) else .error (2,i)):=(by show _=_;rw [HV2.out,if_neg hU];try rfl)
      clear hU HV2 CT HBU
      have HB2:Hid (Below B w w2):=gb_b HG2.out hB
      by_cases c91:x=91
      ·have e91:(x == 91)=true:=by simp [c91]
       by_cases d8:d=8
       ·have e8:((d:Int) == 8)=true:=by simp [d8]
        have HSE:Hid (S=.error (4,i)):=by show _=_;rw [HV3.out,if_pos c91,if_pos d8]
        have hma:=HMA.out w2 HB2.out
        have CWx:=CW.out
        obtain ⟨ty,hty⟩:∃ty,(E 4).1=ty:=⟨_,rfl⟩
        obtain ⟨pv,hpv⟩:∃pv,(E 4).2=pv:=⟨_,rfl⟩
        rw [hty,hpv] at hma CWx
        have CW1:Hid (∀w,Calls Tryz.prog 101 #[.iface ty pv,.int .i64 (i:Nat)] w fun e w'=>(∃v,e=.returned v/\FaultE w' v E 4 i)/\w.grownBy w' none):=CWx
        clear CWx CW HMA hty hpv c91 d8 CL HV3
        go_wp2
        go_region_with (first | (go_at_call 101;refine (CW1.out _).mono ?_;rintro e w5 ⟨⟨v,rfl,hv⟩,hg5⟩))
        all_goals (
         go_wp2
         refine bodyPost_ret (results_tmp (t:=8) rfl _ _ _) rfl ?_
         rw [HSE.out]
         exact ⟨fun j ns hh=>(by cases hh),fun c p hh=>(by cases hh;exact ⟨v,rfl,hv⟩),HB2.out.trans ((gb_b (gb_d w2) (Nat.le_trans hB HG2.out.size)).trans (gb_b hg5 (Nat.le_trans hB HG2.out.size)))⟩)
       ·have e8:((d:Int) == 8)=false:=by rw [beq_eq_false_iff_ne];omega
        have HSE:Hid (S=lst s.data.toList F (i+1) ns.length (d+1) (addN ns up ⟨1,k,[],0,[],p⟩)):=by show _=_;rw [HV3.out,if_pos c91,if_neg d8]
        have CL1:=CL.out c91 d8
        obtain ⟨SL,hSL⟩:∃SL,lst s.data.toList F (i+1) ns.length (d+1) (addN ns up ⟨1,k,[],0,[],p⟩)=SL:=⟨_,rfl⟩
        rw [hSL] at HSE CL1
        have CL2:Hid (∀w',Below B w w'->Rd w' R s i T->Tr w' B T (addN ns up ⟨1,k,[],0,[],p⟩) own now->Calls Tryz.prog 105 #[.pointer (some ⟨R,0,none⟩),.int .i64 (ns.length:Nat),.int .i64 ((d:Int)+1)] w' (VlPost B R T s E own now SL w')):=CL1
        clear CL1 CL HV3 c91 d8 hSL
        have HGD:Hid (w2.grownBy w2.drew none):=gb_d w2
        have HTD:Hid (Tr w2.drew B T ns own now):=HT2.out.gb HGD.out
        have HRD:Hid (Rd w2.drew R s i T):=HR2.out
        have HBD:Hid (Below B w w2.drew):=HB2.out.trans (gb_b HGD.out (Nat.le_trans hB HG2.out.size))
        have CA1:Hid (Calls Tryz.prog 102 #[.pointer (some ⟨T,0,none⟩),.int .i64 (up:Nat),.int .i64 1,.agg #[.string ⟨k.toArray⟩,.int .i64 (p:Nat)]] w2.drew fun e w'=>e=.returned (.int .i64 (ns.length:Nat))/\Hid (Tr w' B T (addN ns up ⟨1,k,[],0,[],p⟩) own now/\Rd w' R s i T/\Below B w w')):=(CA.out 1 _ HTD.out).mono fun e w' ⟨a,b,c⟩=>⟨a,b,HRD.out.fr c,HBD.out.trans c.bel⟩
        have CL3:Hid (∀w',Hid (Tr w' B T (addN ns up ⟨1,k,[],0,[],p⟩) own now/\Rd w' R s i T/\Below B w w')->Calls Tryz.prog 105 #[.pointer (some ⟨R,0,none⟩),.int .i64 (ns.length:Nat),.int .i64 (IntKind.i64.wrap ((d:Int)+1))] w' fun e w''=>∃v,e=.returned v/\Hid (VlPost B R T s E own now SL w (.returned v) w'')):=fun w' hh=>by
         have hwd:IntKind.i64.wrap ((d:Int)+1)=(d:Int)+1:=wrap_d d hd
         rw [hwd]
         exact (CL2.out w' hh.out.2.2 hh.out.2.1 hh.out.1).mono fun e w'' hq=>vl_ret hh.out.2.2 hq
        clear CA CL2 CN CD CH CW HMA HGD HTD HRD HBD HT2 HR2 HG2 HB2 HG1 HK1 HTR HK2 H1 C1
        go_wp2
        go_region_with (first | (go_at_call 102;refine CA1.out.mono ?_;rintro e w3 ⟨rfl,h3⟩) | (go_at_call 105;refine (CL3.out _ h3).mono ?_;rintro e w5 ⟨v,rfl,hv⟩))
        all_goals (
         go_wp2
         refine bodyPost_ret (results_tmp (t:=8) rfl _ _ _) rfl ?_
         rw [HSE.out]
         exact hv.out)
      ·have e91:(x == 91)=false:=by simp [c91]
       have HSE:Hid (S=.error (2,i)):=by show _=_;rw [HV3.out,if_neg c91]
       clear c91 CL HV3
       go_wp2_with (first | (go_at_call 79;refine (CH.out _ HB2.out HR2.out).mono ?_;rintro e w5 ⟨⟨v,rfl,hv⟩,hg5⟩))
       refine bodyPost_ret (results_tmp (t:=8) rfl _ _ _) rfl ?_
       rw [HSE.out]
       exact ⟨fun j ns hh=>(by cases hh),fun c p hh=>(by cases hh;exact ⟨v,rfl,hv⟩),HB2.out.trans (gb_b hg5 (Nat.le_trans hB HG2.out.size))⟩
set_option linter.unusedVariables false
theorem val_zero:ValC 0:=by
 intro B R T s E own now i up k p d ns w _ _ _ _ _ _ _ _ _ _ _ _ _ _ hF
 omega
theorem val_upto:∀F:Nat,∀f,f<=F->ValC f
 | 0,f,h=>by
  have:f=0:=by omega
  subst this
  exact val_zero
 | F+1,f,h=>by
  by_cases he:f<=F
  ·exact val_upto F f he
  ·have:f=F+1:=by omega
   subst this
   exact val_of F (lst_of F fun f hf=>val_upto F f (by omega))
theorem val_any (f:Nat):ValC f:=val_upto f f (Nat.le_refl _)
end Go.Proofs.YtbgnflcebafjjaaGreatDoor
