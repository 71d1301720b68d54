import Derived.Test.YtonfldbigenfhaaGreatDoorM41
import Derived.Test.YtonfldbigenfhaaGreatDoorM04
import Derived.Test.YtonfldbigenfhaaGreatDoorM06
import Derived.Laws.BytesString
import Derived.Test.YtonfldbigenfhaaGreatDoorM07
namespace Go.Proofs.YtonfldbigenfhaaGreatDoor
set_option linter.unusedVariables false
theorem pt3 {a b c:Int} {p q:List UInt8} (ha:Nn a) (hb:Nn b) (hc:Nn c) (hp:okParts true p=true) (hq:okParts false q=true):PT (textV ⟨a,b,c,p,q⟩) ⟨3,a,b,c,p⟩:=PT.n3 a b c p q ha hb hc hp hq
theorem rt1 {u z:List UInt8} {s:Int} {p:Pa} (hu:SgT u s) (hz:PT z p):RT (u++z) [[⟨signOr s,p⟩]] :=
 RT.one _ _ ⟨0,_,rfl,Or.inl (by simpa [bl] using SetT.last (u++z) s _ 0 ⟨u,z,p,hu,hz,rfl,rfl⟩)⟩
theorem rt2 {u z u' z':List UInt8} {s s':Int} {p p':Pa} (hu:SgT u s) (hz:PT z p) (hu':SgT u' s') (hz':PT z' p'):RT (u++(z++(32 :: (u'++z')))) [[⟨signOr s,p⟩,⟨signOr s',p'⟩]]:=by
 have h1:SetT (u'++z') [⟨signOr s',p'⟩]:=by simpa [bl] using SetT.last (u'++z') s' _ 0 ⟨u',z',p',hu',hz',rfl,rfl⟩
 have hn:u'++z' ≠ []:=by
  obtain ⟨x,t,e,-⟩:=pt_head hz'
  rw [e];simp
 have h2:=SetT.cons (u++z) s _ 0 _ _ ⟨u,z,p,hu,hz,rfl,rfl⟩ h1 hn
 refine RT.one _ _ ⟨0,_,?_,Or.inl h2⟩
 simp [bl]
theorem rt_bet {z z':List UInt8} {p p':Pa} (hz:PT z p) (hz':PT z' p'):RT (z++(32 :: 45 :: 32 :: z')) [[⟨7,p⟩,⟨2,p'⟩]] :=
 RT.one _ _ ⟨0,_,rfl,Or.inr ⟨z,z',p,p',0,0,0,hz,hz',by simp [bl],rfl⟩⟩
theorem rt_sp {x y:List UInt8} {A:List Te} {B:List (List Te)} (hx:SetT x A) (hn:x ≠ []) (hy:RT y B):RT (x++(32 :: 124 :: 124 :: 32 :: y)) (A :: B):=by
 have h1:SetT (x++(bl 1++[])) (A++[]):=set_app hx SetT.nil 0 hn
 rw [List.append_nil] at h1
 have h2:RT (32 :: y) B:=by
  cases hy with
  | one y ts h =>
   obtain ⟨g,z,rfl,h⟩:=h
   exact RT.one _ _ ⟨g+1,z,by simp [bl,List.replicate_succ],h⟩
  | more y ts y' S h hy' =>
   obtain ⟨g,z,rfl,h⟩:=h
   rw [<-List.cons_append]
   exact RT.more _ _ _ _ ⟨g+1,z,by simp [bl,List.replicate_succ],h⟩ hy'
 have h3:=RT.more _ _ _ _ ⟨0,_,rfl,Or.inl h1⟩ h2
 simpa [bl] using h3
theorem set1 {u z:List UInt8} {s:Int} {p:Pa} (hu:SgT u s) (hz:PT z p):SetT (u++z) [⟨signOr s,p⟩]/\u++z ≠ []:=by
 refine ⟨by simpa [bl] using SetT.last (u++z) s _ 0 ⟨u,z,p,hu,hz,rfl,rfl⟩,?_⟩
 obtain ⟨x,t,e,-⟩:=pt_head hz
 rw [e];simp
theorem adm1 (t:Te) (v:V):admS [[t]] v=admB t v:=by simp [admS,admL]
theorem adm2 (t u:Te) (v:V):admS [[t,u]] v=(admB t v && admB u v):=by simp [admS,admL]
theorem pa3_ok {a b c:Int} {p:List UInt8} (ha:Nn a) (hb:Nn b) (hc:Nn c) (hp:okParts true p=true):PaOk ⟨3,a,b,c,p⟩ :=
 ⟨Nat.le_refl _,ha,hb,hc,fun h=>by simp only at h;omega,fun h=>by simp only at h;omega,fun h=>by simp only at h;omega,hp⟩
theorem seg_split (fr to_ v:V) (hv:VOk v):hasG ⟨fr,to_,false⟩ v=(hasG ⟨fr,nilV,true⟩ v && hasG ⟨lowV,to_,false⟩ v):=by
 have hl:=low_all v hv
 rw [Bool.eq_iff_iff,Bool.and_eq_true,has_iff,has_iff,has_iff]
 simp [hl]
theorem ge_is {p:Pa} (hp:PaOk p) {v:V} (hv:VOk v):admB ⟨1,p⟩ v=hasG ⟨firstV p,nilV,true⟩ v:=(sign_ok 1 (by decide) p hp v hv).symm
theorem lt_is {p:Pa} (hp:PaOk p) {v:V} (hv:VOk v):admB ⟨4,p⟩ v=hasG ⟨lowV,firstV p,false⟩ v:=(sign_ok 4 (by decide) p hp v hv).symm
theorem ca_is {p:Pa} (hp:PaOk p) {v:V} (hv:VOk v):admB ⟨5,p⟩ v=hasG (alikeG p (leadN p)) v:=(sign_ok 5 (by decide) p hp v hv).symm
theorem ti_is {p:Pa} (hp:PaOk p) {v:V} (hv:VOk v):admB ⟨6,p⟩ v=hasG (alikeG p (min p.n 2)) v:=(sign_ok 6 (by decide) p hp v hv).symm
theorem eq_is {p:Pa} (hp:PaOk p) {v:V} (hv:VOk v):admB ⟨0,p⟩ v=hasG (namedG p) v:=(sign_ok 0 (by decide) p hp v hv).symm
def caretTo (a b c:Int):Int × Int × Int:=if a=0 then (if b=0 then (0,0,c+1) else (0,b+1,0)) else (a+1,0,0)
theorem caret_seg (a b c:Int):alikeG ⟨3,a,b,c,[]⟩ (leadN ⟨3,a,b,c,[]⟩)=⟨⟨a,b,c,[]⟩,⟨(caretTo a b c).1,(caretTo a b c).2.1,(caretTo a b c).2.2,[48]⟩,false⟩:=by
 unfold leadN caretTo
 by_cases ha:a=0
 ·by_cases hb:b=0
  ·subst ha hb
   by_cases hc:c=0
   ·subst hc;rfl
   ·simp [hc];rfl
  ·subst ha
   simp [hb];rfl
 ·simp [ha];rfl
theorem caret_one {a b c:Int} (ha:Nn a) (hb:Nn b) (hc:Nn c) (h1:Nn (caretTo a b c).1) (h2:Nn (caretTo a b c).2.1) (h3:Nn (caretTo a b c).2.2) {v:V} (hv:VOk v) :
  admS [[⟨5,⟨3,a,b,c,[]⟩⟩]] v=admS [[⟨1,⟨3,a,b,c,[]⟩⟩,⟨4,⟨3,(caretTo a b c).1,(caretTo a b c).2.1,(caretTo a b c).2.2,[48]⟩⟩]] v:=by
 have hp:=pa3_ok ha hb hc (p:=[]) (by decide)
 have hq:=pa3_ok h1 h2 h3 (p:=[48]) (by decide)
 rw [adm1,adm2,ca_is hp hv,ge_is hp hv,lt_is hq hv,caret_seg,seg_split _ _ v hv]
 rfl
theorem caret_two {a b c:Int} (ha:Nn a) (hb:Nn b) (hc:Nn c) (h:0 < b\/0 < a) {v:V} (hv:VOk v) :
  admS [[⟨5,⟨3,a,b,0,[]⟩⟩]] v=admS [[⟨5,⟨3,a,b,0,[]⟩⟩],[⟨5,⟨3,a,b,c,[]⟩⟩]] v:=by
 have hp:=pa3_ok ha hb hc (p:=[]) (by decide)
 have hq:=pa3_ok ha hb (c:=0) (by unfold Nn;omega) (p:=[]) (by decide)
 have e:caretTo a b c=caretTo a b 0:=by
  unfold caretTo
  by_cases h0:a=0
  ·have hb0:¬ b=0:=by omega
   simp [h0,hb0]
  ·simp [h0]
 have e2:admS [[⟨5,⟨3,a,b,0,[]⟩⟩],[⟨5,⟨3,a,b,c,[]⟩⟩]] v=(admB ⟨5,⟨3,a,b,0,[]⟩⟩ v || admB ⟨5,⟨3,a,b,c,[]⟩⟩ v):=by simp [admS,admL]
 rw [adm1,e2,ca_is hp hv,ca_is hq hv,caret_seg,caret_seg,e]
 have l1:=lt_iff v ⟨a,b,0,[]⟩
 have l2:=lt_iff v ⟨a,b,c,[]⟩
 simp only at l1 l2
 have c0:=hc.1
 have hv3:=hv.n3
 rw [Bool.eq_iff_iff,Bool.or_eq_true,has_iff,has_iff]
 simp only [Bool.false_eq_true,false_or]
 constructor
 ·exact Or.inl
 ·rintro (h | ⟨h,h'⟩)
  ·exact h
  ·refine ⟨fun hh=>h ?_,h'⟩
   rw [l2]
   rw [l1] at hh
   omega
theorem tilde_one {a b c:Int} (ha:Nn a) (hb:Nn b) (hc:Nn c) (h2:Nn (b+1)) {v:V} (hv:VOk v) :
  admS [[⟨6,⟨3,a,b,c,[]⟩⟩]] v=admS [[⟨1,⟨3,a,b,c,[]⟩⟩,⟨4,⟨3,a,b+1,0,[48]⟩⟩]] v:=by
 have hp:=pa3_ok ha hb hc (p:=[]) (by decide)
 have hq:=pa3_ok ha h2 (c:=0) (by unfold Nn;omega) (p:=[48]) (by decide)
 rw [adm1,adm2,ti_is hp hv,ge_is hp hv,lt_is hq hv,<-seg_split _ _ v hv]
 rfl
theorem pa2_ok' {a b:Int} (ha:Nn a) (hb:Nn b):PaOk ⟨2,a,b,0,[]⟩ :=
 ⟨by simp,ha,hb,by simp,fun h=>by simp only at h;omega,fun h=>by simp only at h;omega,fun h=>⟨rfl,rfl⟩,(by decide:okParts true []=true)⟩
theorem pa1_ok' {a:Int} (ha:Nn a):PaOk ⟨1,a,0,0,[]⟩ :=
 ⟨by simp,ha,by simp,by simp,fun h=>by simp only at h;omega,fun h=>rfl,fun h=>⟨rfl,rfl⟩,(by decide:okParts true []=true)⟩
theorem tilde_two {a b:Int} (ha:Nn a) (hb:Nn b) (h2:Nn (b+1)) {v:V} (hv:VOk v) :
  admS [[⟨0,⟨2,a,b,0,[]⟩⟩]] v=admS [[⟨1,⟨3,a,b,0,[48]⟩⟩,⟨4,⟨3,a,b+1,0,[48]⟩⟩]] v:=by
 have n0:Nn 0:=by unfold Nn;omega
 rw [adm1,adm2,eq_is (pa2_ok' ha hb) hv,ge_is (pa3_ok ha hb n0 (by decide)) hv,lt_is (pa3_ok ha h2 n0 (by decide)) hv,<-seg_split _ _ v hv]
 rfl
theorem tilde_three {a:Int} (ha:Nn a) (h2:Nn (a+1)) {v:V} (hv:VOk v) :
  admS [[⟨0,⟨1,a,0,0,[]⟩⟩]] v=admS [[⟨1,⟨3,a,0,0,[48]⟩⟩,⟨4,⟨3,a+1,0,0,[48]⟩⟩]] v:=by
 have n0:Nn 0:=by unfold Nn;omega
 rw [adm1,adm2,eq_is (pa1_ok' ha) hv,ge_is (pa3_ok ha n0 n0 (by decide)) hv,lt_is (pa3_ok h2 n0 n0 (by decide)) hv,<-seg_split _ _ v hv]
 rfl
theorem tilde_four {a b:Int} (ha:Nn a) (hb:Nn b) {v:V} (hv:VOk v):admS [[⟨6,⟨2,a,b,0,[]⟩⟩]] v=admS [[⟨0,⟨2,a,b,0,[]⟩⟩]] v:=by
 rw [adm1,adm1,eq_is (pa2_ok' ha hb) hv,ti_is (pa2_ok' ha hb) hv]
 rfl
theorem tilde_five {a:Int} (ha:Nn a) {v:V} (hv:VOk v):admS [[⟨6,⟨1,a,0,0,[]⟩⟩]] v=admS [[⟨0,⟨1,a,0,0,[]⟩⟩]] v:=by
 rw [adm1,adm1,eq_is (pa1_ok' ha) hv,ti_is (pa1_ok' ha) hv]
 rfl
theorem place3 (a b c:Int) (p:List UInt8) (v:V):placeB ⟨3,a,b,c,p⟩ v=verC v ⟨a,b,c,p⟩:=by
 have hP:placeB ⟨3,a,b,c,p⟩ v=if verC (⟨a,b,c,p⟩:V) v=0 then 0 else verC v ⟨a,b,c,p⟩:=by
  unfold placeB namedB paV
  by_cases hm:verC (⟨a,b,c,p⟩:V) v=0 <;> simp [hm]
 rw [hP]
 have:=v_anti v ⟨a,b,c,p⟩
 split
 ·omega
 ·rfl
theorem s0 (a b c:Int) (p:List UInt8) (v:V):admB ⟨0,⟨3,a,b,c,p⟩⟩ v=decide (verC v ⟨a,b,c,p⟩=0):=by
 have h:=v_anti v ⟨a,b,c,p⟩
 show decide (verC (⟨a,b,c,p⟩:V) v=0)=_
 rw [Bool.eq_iff_iff,decide_eq_true_eq,decide_eq_true_eq]
 omega
theorem s1 (a b c:Int) (p:List UInt8) (v:V):admB ⟨1,⟨3,a,b,c,p⟩⟩ v=decide (0<=verC v ⟨a,b,c,p⟩):=by
 show decide (0<=placeB ⟨3,a,b,c,p⟩ v)=_
 rw [place3]
theorem s2 (a b c:Int) (p:List UInt8) (v:V):admB ⟨2,⟨3,a,b,c,p⟩⟩ v=decide (verC v ⟨a,b,c,p⟩<=0):=by
 show decide (placeB ⟨3,a,b,c,p⟩ v<=0)=_
 rw [place3]
theorem s3 (a b c:Int) (p:List UInt8) (v:V):admB ⟨3,⟨3,a,b,c,p⟩⟩ v=decide (0 < verC v ⟨a,b,c,p⟩):=by
 show decide (0 < placeB ⟨3,a,b,c,p⟩ v)=_
 rw [place3]
theorem s4 (a b c:Int) (p:List UInt8) (v:V):admB ⟨4,⟨3,a,b,c,p⟩⟩ v=decide (verC v ⟨a,b,c,p⟩ < 0):=by
 show decide (placeB ⟨3,a,b,c,p⟩ v < 0)=_
 rw [place3]
theorem s7 (a b c:Int) (p:List UInt8) (v:V):admB ⟨7,⟨3,a,b,c,p⟩⟩ v=decide (0<=verC v ⟨a,b,c,p⟩):=by
 have h:=v_anti v ⟨a,b,c,p⟩
 show (decide (3=0) || decide (verC (⟨a,b,c,p⟩:V) v<=0))=_
 rw [Bool.eq_iff_iff,Bool.or_eq_true,decide_eq_true_eq,decide_eq_true_eq,decide_eq_true_eq]
 omega
theorem side_all (a b c:Int) (p:List UInt8) (v:V):admS [[⟨4,⟨3,a,b,c,p⟩⟩],[⟨0,⟨3,a,b,c,p⟩⟩],[⟨3,⟨3,a,b,c,p⟩⟩]] v=true:=by
 simp only [admS,admL,List.any_cons,List.any_nil,List.all_cons,List.all_nil,Bool.and_true,Bool.or_false,s4,s0,s3,Bool.or_eq_true,decide_eq_true_eq]
 omega
theorem side_no1 (a b c:Int) (p:List UInt8) (v:V):admS [[⟨4,⟨3,a,b,c,p⟩⟩,⟨1,⟨3,a,b,c,p⟩⟩]] v=false:=by
 rw [adm2,s4,s1,Bool.and_eq_false_iff,decide_eq_false_iff_not,decide_eq_false_iff_not]
 omega
theorem side_no2 (a b c:Int) (p:List UInt8) (v:V):admS [[⟨2,⟨3,a,b,c,p⟩⟩,⟨3,⟨3,a,b,c,p⟩⟩]] v=false:=by
 rw [adm2,s2,s3,Bool.and_eq_false_iff,decide_eq_false_iff_not,decide_eq_false_iff_not]
 omega
theorem side_one (a b c:Int) (p:List UInt8) (v:V):admS [[⟨0,⟨3,a,b,c,p⟩⟩]] v=admS [[⟨2,⟨3,a,b,c,p⟩⟩,⟨1,⟨3,a,b,c,p⟩⟩]] v:=by
 rw [adm1,adm2,s0,s2,s1,Bool.eq_iff_iff,Bool.and_eq_true,decide_eq_true_eq,decide_eq_true_eq,decide_eq_true_eq]
 omega
theorem side_two (a b c:Int) (p:List UInt8) (q:Te) (v:V):admS [[⟨7,⟨3,a,b,c,p⟩⟩,q]] v=admS [[⟨1,⟨3,a,b,c,p⟩⟩,q]] v:=by
 rw [adm2,adm2,s7,s1]
theorem admS_app (A B:List (List Te)) (v:V):admS (A++B) v=(admS A v || admS B v):=by simp [admS]
theorem admL_app (A B:List Te) (v:V):admS [A++B] v=(admS [A] v && admS [B] v):=by simp [admS,admL]
open Go.RowKit
set_option linter.unusedVariables false
theorem conv_one (w:World) (c:Int):(convert 120 9 (.slice (some ⟨w.heap.size,0,none⟩) 1 1)).run Tryz.prog (w.alloc (.cells #[.int .u8 c] 5))=.ok (.string ⟨#[UInt8.ofNat c.toNat]⟩) (w.alloc (.cells #[.int .u8 c] 5)):=by
 rw [run_convert_bytes_string _ 120 9 5 _ 1 1 Tryz.underlying120 Tryz.underlying5 Tryz.underlying9]
 rw [run_bytesToString _ _ 1 1 [c] (run_loadCells_list _ _ [.int .u8 c] (by
  intro j v hj
  match j,hj with
  | 0,hj=>simp at hj;subst hj;simp [Addr.add]))]
 rfl
theorem add_lists (x y:List UInt8) (wx:World) (h:x.length+y.length<=9223372036854775807):(Op.stringOp .add ⟨x.toArray⟩ ⟨y.toArray⟩).run Tryz.prog wx=.ok (.string ⟨(x++y).toArray⟩) wx:=by
 rw [run_string_add_sum wx _ _ (by
  show x.toArray.size+y.toArray.size<=_
  simpa using h),ByteArray.mk_append_mk]
theorem nd_len:∀(u:Nat),(Lib.decDigits u).length<=u / 10+1:=by
 intro u
 induction u using Nat.strongRecOn with
 | ind u ih =>
  rw [Lib.decDigits]
  split
  ·simp
  ·have:=ih (u / 10) (by omega)
   simp;omega
theorem itoa_len (n:Int) (h0:-9223372036854775808<=n) (h1:n<=9223372036854775807):(Lib.itoa n).length<=922337203685477584:=by
 unfold Lib.itoa
 split
 ·have:=nd_len n.natAbs;simp;omega
 ·have:=nd_len n.toNat;omega
theorem itoa_s1 (n:Int) (h:n < 0) (h':-10 < n):Lib.itoa n=[45,UInt8.ofNat (48 - n).toNat]:=by
 unfold Lib.itoa
 rw [if_pos h,Lib.decDigits_one (by omega),show (48 - n).toNat=48+n.natAbs by omega]
theorem itoa_s3 (n:Int) (h:¬ n < 0) (h':n < 10):Lib.itoa n=[UInt8.ofNat (48+n).toNat]:=by
 unfold Lib.itoa
 rw [if_neg h,Lib.decDigits_one (by omega),show (48+n).toNat=48+n.toNat by omega]
theorem itoa_s4 (n:Int) (h:10<=n):Lib.itoa n=Lib.itoa (n / 10)++[UInt8.ofNat (48+n % 10).toNat]:=by
 unfold Lib.itoa
 rw [if_neg (by omega),if_neg (by omega),Lib.decDigits,dif_neg (by omega),show (n / 10).toNat=n.toNat / 10 by omega,show (48+n % 10).toNat=48+n.toNat % 10 by omega]
theorem tdiv_neg (n:Int) (h:n < 0):n.tdiv 10=-((-n) / 10):=by
 have:n=-(-n):=by omega
 rw [this,Int.neg_tdiv,Int.tdiv_eq_ediv_of_nonneg (by omega)];simp
theorem tmod_neg (n:Int) (h:n < 0):n.tmod 10=-((-n) % 10):=by
 have:n=-(-n):=by omega
 rw [this,Int.neg_tmod,Int.tmod_eq_emod_of_nonneg (by omega)];simp
theorem itoa_s2 (n:Int) (h:n<=-10):Lib.itoa n=Lib.itoa (n.tdiv 10)++[UInt8.ofNat (48 - n.tmod 10).toNat]:=by
 rw [tdiv_neg n (by omega),tmod_neg n (by omega)]
 unfold Lib.itoa
 rw [if_pos (by omega),if_pos (by omega),Lib.decDigits,dif_neg (by omega),show (-(-n / 10)).natAbs=n.natAbs / 10 by omega,show (48 - -(-n % 10)).toNat=48+n.natAbs % 10 by omega]
 rfl
set_option maxHeartbeats 800000 in
theorem decimal_at:∀(m:Nat) (n:Int),n.natAbs=m->-9223372036854775808<=n->n<=9223372036854775807->∀(w:World),
  Calls Tryz.prog 52 #[.int .i64 n] w fun e w'=>e=.returned (.string ⟨(Lib.itoa n).toArray⟩)/\Below w.heap.size w w':=by
 intro m
 induction m using Nat.strongRecOn with
 | ind m ih =>
  intro n hm h0 h1 w
  have IH:Hid (∀n':Int,n'.natAbs < m->-9223372036854775808<=n'->n'<=9223372036854775807->∀(w:World),Calls Tryz.prog 52 #[.int .i64 n'] w fun e w'=>e=.returned (.string ⟨(Lib.itoa n').toArray⟩)/\Below w.heap.size w w'):=fun n' h=>ih _ h n' rfl
  have HM:Hid (n.natAbs=m):=hm
  clear ih hm
  obtain ⟨T,hT⟩:∃T,T=Lib.itoa n:=⟨_,rfl⟩
  rw [<-hT]
  have HT:Hid (T=Lib.itoa n):=hT
  clear hT
  by_cases hneg:n < 0
  ·by_cases h10:-10 < n
   ·have w1:IntKind.i64.wrap (48 - n)=48 - n:=by rw [IntKind.wrap_i64];omega
    have w2:IntKind.u8.wrap (48 - n)=48 - n:=by rw [IntKind.wrap_u8];omega
    have hcv:=conv_one w (48 - n)
    have HE:Hid (T=[45,UInt8.ofNat (48 - n).toNat]):=by show T=_;rw [HT.out,itoa_s1 n hneg h10]
    go_enter Tryz.func52,Tryz.ntmps52
    go_wp2
    go_ret
    refine ⟨?_,gb_below (gb_alloc (gb_refl w none) _)⟩
    rw [HE.out]
    rfl
   ·have hn10:n<=-10:=by omega
    have hr:n.tmod 10=-((-n) % 10):=tmod_neg n hneg
    have hq:n.tdiv 10=-((-n) / 10):=tdiv_neg n hneg
    have w1:IntKind.i64.wrap (48 - n.tmod 10)=48 - n.tmod 10:=by rw [IntKind.wrap_i64];omega
    have w2:IntKind.u8.wrap (48 - n.tmod 10)=48 - n.tmod 10:=by rw [IntKind.wrap_u8];omega
    have HC:Hid (∀w:World,Calls Tryz.prog 52 #[.int .i64 (n.tdiv 10)] w fun e w'=>e=.returned (.string ⟨(Lib.itoa (n.tdiv 10)).toArray⟩)/\Below w.heap.size w w'):=IH.out (n.tdiv 10) (by have:=HM.out;omega) (by omega) (by omega)
    have hl:=itoa_len (n.tdiv 10) (by omega) (by omega)
    have HE:Hid (T=Lib.itoa (n.tdiv 10)++[UInt8.ofNat (48 - n.tmod 10).toNat]):=by show T=_;rw [HT.out,itoa_s2 n hn10]
    have ad:=fun wx=>add_lists (Lib.itoa (n.tdiv 10)) [UInt8.ofNat (48 - n.tmod 10).toNat] wx (by simp;omega)
    have hcv:=fun w=>conv_one w (48 - n.tmod 10)
    rw [<-HE.out] at ad
    clear hr hq hl
    generalize Lib.itoa (n.tdiv 10)=T1 at HC ad HE
    generalize UInt8.ofNat (48 - n.tmod 10).toNat=d at ad hcv HE
    have ad':∀wx,(Op.stringOp .add ⟨T1.toArray⟩ ⟨#[d]⟩).run Tryz.prog wx=.ok (.string ⟨T.toArray⟩) wx:=ad
    clear ad h10
    go_enter Tryz.func52,Tryz.ntmps52
    go_wp2_with (go_at_call 52;refine (HC.out _).mono ?_)
    rintro e w1' ⟨rfl,hb⟩
    have HB:Hid (Below w.heap.size w w1'):=hb
    clear hb
    have hcv1:=hcv w1'
    clear hcv
    go_wp2
    go_ret
    exact ⟨rfl,HB.out.alloc HB.out.size _⟩
  ·by_cases h10:n < 10
   ·have w1:IntKind.i64.wrap (48+n)=48+n:=by rw [IntKind.wrap_i64];omega
    have w2:IntKind.u8.wrap (48+n)=48+n:=by rw [IntKind.wrap_u8];omega
    have hcv:=conv_one w (48+n)
    have HE:Hid (T=[UInt8.ofNat (48+n).toNat]):=by show T=_;rw [HT.out,itoa_s3 n hneg h10]
    go_enter Tryz.func52,Tryz.ntmps52
    go_wp2
    go_ret
    refine ⟨?_,gb_below (gb_alloc (gb_refl w none) _)⟩
    rw [HE.out]
    rfl
   ·have hn10:10<=n:=by omega
    have w1:IntKind.i64.wrap (48+n % 10)=48+n % 10:=by rw [IntKind.wrap_i64];omega
    have w2:IntKind.u8.wrap (48+n % 10)=48+n % 10:=by rw [IntKind.wrap_u8];omega
    have HC:Hid (∀w:World,Calls Tryz.prog 52 #[.int .i64 (n / 10)] w fun e w'=>e=.returned (.string ⟨(Lib.itoa (n / 10)).toArray⟩)/\Below w.heap.size w w'):=IH.out (n / 10) (by have:=HM.out;omega) (by omega) (by omega)
    have hl:=itoa_len (n / 10) (by omega) (by omega)
    have HE:Hid (T=Lib.itoa (n / 10)++[UInt8.ofNat (48+n % 10).toNat]):=by show T=_;rw [HT.out,itoa_s4 n hn10]
    have ad:=fun wx=>add_lists (Lib.itoa (n / 10)) [UInt8.ofNat (48+n % 10).toNat] wx (by simp;omega)
    have hcv:=fun w=>conv_one w (48+n % 10)
    rw [<-HE.out] at ad
    clear hl
    generalize Lib.itoa (n / 10)=T1 at HC ad HE
    generalize UInt8.ofNat (48+n % 10).toNat=d at ad hcv HE
    have ad':∀wx,(Op.stringOp .add ⟨T1.toArray⟩ ⟨#[d]⟩).run Tryz.prog wx=.ok (.string ⟨T.toArray⟩) wx:=ad
    clear ad h10
    go_enter Tryz.func52,Tryz.ntmps52
    go_wp2_with (go_at_call 52;refine (HC.out _).mono ?_)
    rintro e w1' rfl hb
    have HB:Hid (Below w.heap.size w w1'):=hb
    clear hb
    have hcv1:=hcv w1'
    clear hcv
    go_wp2
    go_ret
    exact ⟨rfl,HB.out.alloc HB.out.size _⟩
theorem decimal_any (n:Int) (w:World) (h0:-9223372036854775808<=n) (h1:n<=9223372036854775807) :
  Calls Tryz.prog 52 #[.int .i64 n] w fun e w'=>e=.returned (.string ⟨(Lib.itoa n).toArray⟩)/\Below w.heap.size w w':=decimal_at _ n rfl h0 h1 w
open Go.RowKit
set_option linter.unusedVariables false
theorem bytes_ne {a b:ByteArray} (h:¬ a=b):(a.toList == b.toList)=false:=by
 rw [beq_eq_false_iff_ne]
 intro e
 apply h
 rw [Go.Lib.toList_data,Go.Lib.toList_data] at e
 cases a;cases b;simp only at e;rw [Array.toList_inj.1 e]
set_option maxRecDepth 100000 in
set_option maxHeartbeats 1600000 in
theorem equal_len (x y:Option Addr) (m n c d:Nat) (w:World) (h:m ≠ n):Calls Tryz.prog 16 #[.slice x m c,.slice y n d] w fun e w'=>e=.returned (.bool false)/\w.grownBy w' none:=by
 have hne:¬ ((m:Int)=(n:Int)):=by omega
 go_enter Tryz.func16,Tryz.ntmps16
 go_wp2
 go_ret
 exact ⟨rfl,gb_refl _ _⟩
set_option maxRecDepth 100000 in
set_option maxHeartbeats 6400000 in
theorem equal_gen (a b:Addr) (capa capb:Nat) (L M:List Sp) (w:World) (hl:M.length=L.length) (hL:L.length < 2 ^ 62) (ha:L.length<=capa) (hb:L.length<=capb) (h:SpAt w a L) (h':SpAt w b M) :
  Calls Tryz.prog 16 #[.slice (some a) L.length capa,.slice (some b) L.length capb] w fun e w'=>(∃r,e=.returned (.bool r)/\(r=true ↔ L=M))/\w.grownBy w' none:=by
 have HA:Hid (SpAt w a L):=h
 have HB:Hid (SpAt w b M):=h'
 have HL:Hid (M.length=L.length):=hl
 clear h h' hl
 go_enter Tryz.func16,Tryz.ntmps16
 go_wp2
 go_loopw [5] (fun vi wr=>∃i:Nat,vi=.int .i64 i/\i<=L.length/\(∀j (hj:j < i),L[j]?=M[j]?)/\w.grownBy wr none) (fun vi _=>L.length - (intOf vi).toNat)
 case atStart=>exact ⟨0,rfl,Nat.zero_le _,fun j hj=>absurd hj (by omega),gb_refl _ _⟩
 case round =>
  obtain ⟨i,rfl,hi,hp,hg⟩:=hrel
  have HP:Hid (∀j (hj:j < i),L[j]?=M[j]?):=hp
  have HG:Hid (w.grownBy wr none):=hg
  clear hg hp
  by_cases hlt:i < L.length
  ·obtain ⟨s,hs⟩:∃s,L[i]=s:=⟨_,rfl⟩
   obtain ⟨t,ht⟩:∃t,M[i]'(by rw [HL.out];exact hlt)=t:=⟨_,rfl⟩
   have HE:Hid (EltAt wr (a.add (i * 11)) s):=by show EltAt wr _ s;rw [<-hs];exact (HA.out i hlt).grow HG.out
   have HF:Hid (EltAt wr (b.add (i * 11)) t):=by show EltAt wr _ t;rw [<-ht];exact (HB.out i (by rw [HL.out];exact hlt)).grow HG.out
   have HS:Hid (L[i]?=some s/\M[i]?=some t):=⟨by rw [<-hs];exact List.getElem?_eq_getElem _,by rw [<-ht];exact List.getElem?_eq_getElem _⟩
   clear hs ht
   obtain ⟨x1,x2,x3,x4,x5,x6,x7,x8,x9,x10,x11⟩:=s
   obtain ⟨y1,y2,y3,y4,y5,y6,y7,y8,y9,y10,y11⟩:=t
   obtain ⟨e0,e1,e2,e3,e4,e5,e6,e7,e8,e9,e10⟩:=HE.out
   obtain ⟨f0,f1,f2,f3,f4,f5,f6,f7,f8,f9,f10⟩:=HF.out
   dsimp only at e0 e1 e2 e3 e4 e5 e6 e7 e8 e9 e10 f0 f1 f2 f3 f4 f5 f6 f7 f8 f9 f10
   clear HE HF
   by_cases c1:x1=y1
   rotate_left
   ·have HN:Hid (¬ L=M):=fun h=>by
     have h1:=HS.out.1
     rw [h,HS.out.2] at h1
     simp at h1
     exact c1 (by simp [h1])
    clear HS HP
    go_wp2
    go_quiet (fail)
    go_wp2
    go_ret
    exact ⟨⟨false,rfl,by simp,fun h=>absurd h HN.out⟩,gb_drew HG.out _⟩
   subst c1
   by_cases c2:x2=y2
   rotate_left
   ·have HN:Hid (¬ L=M):=fun h=>by
     have h1:=HS.out.1
     rw [h,HS.out.2] at h1
     simp at h1
     exact c2 (by simp [h1])
    clear HS HP
    go_wp2
    go_quiet (fail)
    go_wp2
    go_ret
    exact ⟨⟨false,rfl,by simp,fun h=>absurd h HN.out⟩,gb_drew HG.out _⟩
   subst c2
   by_cases c3:x3=y3
   rotate_left
   ·have HN:Hid (¬ L=M):=fun h=>by
     have h1:=HS.out.1
     rw [h,HS.out.2] at h1
     simp at h1
     exact c3 (by simp [h1])
    clear HS HP
    go_wp2
    go_quiet (fail)
    go_wp2
    go_ret
    exact ⟨⟨false,rfl,by simp,fun h=>absurd h HN.out⟩,gb_drew HG.out _⟩
   subst c3
   by_cases c4:x4=y4
   rotate_left
   ·have HN:Hid (¬ L=M):=fun h=>by
     have h1:=HS.out.1
     rw [h,HS.out.2] at h1
     simp at h1
     exact c4 (by simp [h1])
    have n4:=bytes_ne c4
    clear HS HP
    go_wp2
    go_quiet (fail)
    go_wp2
    go_ret
    exact ⟨⟨false,rfl,by simp,fun h=>absurd h HN.out⟩,gb_drew HG.out _⟩
   subst c4
   by_cases c5:x5=y5
   rotate_left
   ·have q4:(x4.toList == x4.toList)=true:=by simp
    have HN:Hid (¬ L=M):=fun h=>by
     have h1:=HS.out.1
     rw [h,HS.out.2] at h1
     simp at h1
     exact c5 (by simp [h1])
    have n5:=bytes_ne c5
    clear HS HP
    go_wp2
    go_quiet (fail)
    go_wp2
    go_ret
    exact ⟨⟨false,rfl,by simp,fun h=>absurd h HN.out⟩,gb_drew HG.out _⟩
   subst c5
   by_cases c6:x6=y6
   rotate_left
   ·have q4:(x4.toList == x4.toList)=true:=by simp
    have q5:(x5.toList == x5.toList)=true:=by simp
    have HN:Hid (¬ L=M):=fun h=>by
     have h1:=HS.out.1
     rw [h,HS.out.2] at h1
     simp at h1
     exact c6 (by simp [h1])
    clear HS HP
    go_wp2
    go_quiet (fail)
    go_wp2
    go_ret
    exact ⟨⟨false,rfl,by simp,fun h=>absurd h HN.out⟩,gb_drew HG.out _⟩
   subst c6
   by_cases c7:x7=y7
   rotate_left
   ·have q4:(x4.toList == x4.toList)=true:=by simp
    have q5:(x5.toList == x5.toList)=true:=by simp
    have HN:Hid (¬ L=M):=fun h=>by
     have h1:=HS.out.1
     rw [h,HS.out.2] at h1
     simp at h1
     exact c7 (by simp [h1])
    clear HS HP
    go_wp2
    go_quiet (fail)
    go_wp2
    go_ret
    exact ⟨⟨false,rfl,by simp,fun h=>absurd h HN.out⟩,gb_drew HG.out _⟩
   subst c7
   by_cases c8:x8=y8
   rotate_left
   ·have q4:(x4.toList == x4.toList)=true:=by simp
    have q5:(x5.toList == x5.toList)=true:=by simp
    have HN:Hid (¬ L=M):=fun h=>by
     have h1:=HS.out.1
     rw [h,HS.out.2] at h1
     simp at h1
     exact c8 (by simp [h1])
    clear HS HP
    go_wp2
    go_quiet (fail)
    go_wp2
    go_ret
    exact ⟨⟨false,rfl,by simp,fun h=>absurd h HN.out⟩,gb_drew HG.out _⟩
   subst c8
   by_cases c9:x9=y9
   rotate_left
   ·have q4:(x4.toList == x4.toList)=true:=by simp
    have q5:(x5.toList == x5.toList)=true:=by simp
    have HN:Hid (¬ L=M):=fun h=>by
     have h1:=HS.out.1
     rw [h,HS.out.2] at h1
     simp at h1
     exact c9 (by simp [h1])
    have n9:=bytes_ne c9
    clear HS HP
    go_wp2
    go_quiet (fail)
    go_wp2
    go_ret
    exact ⟨⟨false,rfl,by simp,fun h=>absurd h HN.out⟩,gb_drew HG.out _⟩
   subst c9
   by_cases c10:x10=y10
   rotate_left
   ·have q4:(x4.toList == x4.toList)=true:=by simp
    have q5:(x5.toList == x5.toList)=true:=by simp
    have q9:(x9.toList == x9.toList)=true:=by simp
    have HN:Hid (¬ L=M):=fun h=>by
     have h1:=HS.out.1
     rw [h,HS.out.2] at h1
     simp at h1
     exact c10 (by simp [h1])
    have n10:=bytes_ne c10
    clear HS HP
    go_wp2
    go_quiet (fail)
    go_wp2
    go_ret
    exact ⟨⟨false,rfl,by simp,fun h=>absurd h HN.out⟩,gb_drew HG.out _⟩
   subst c10
   by_cases c11:x11=y11
   rotate_left
   ·have q4:(x4.toList == x4.toList)=true:=by simp
    have q5:(x5.toList == x5.toList)=true:=by simp
    have q9:(x9.toList == x9.toList)=true:=by simp
    have q10:(x10.toList == x10.toList)=true:=by simp
    have HN:Hid (¬ L=M):=fun h=>by
     have h1:=HS.out.1
     rw [h,HS.out.2] at h1
     simp at h1
     exact c11 (by simp [h1])
    have n11:(x11 == y11)=false:=by simpa using c11
    clear HS HP
    go_wp2
    go_quiet (fail)
    go_wp2
    go_ret
    exact ⟨⟨false,rfl,by simp,fun h=>absurd h HN.out⟩,gb_drew HG.out _⟩
   subst c11
   have q4:(x4.toList == x4.toList)=true:=by simp
   have q5:(x5.toList == x5.toList)=true:=by simp
   have q9:(x9.toList == x9.toList)=true:=by simp
   have q10:(x10.toList == x10.toList)=true:=by simp
   go_wp2
   go_quiet (fail)
   go_wp2
   go_roundw
   case rel =>
    refine ⟨i+1,by go_num,by omega,?_,gb_drew HG.out _⟩
    intro j hj
    by_cases hji:j < i
    ·exact HP.out j hji
    ·have e:j=i:=by omega
     rw [e,HS.out.1,HS.out.2]
   case measure=>simp [intOf];omega
  ·have HI:Hid (i=L.length):=by show i=L.length;omega
   clear hi
   go_wp2
   go_ret
   refine ⟨⟨true,rfl,fun _=>?_,fun _=>rfl⟩,HG.out⟩
   apply List.ext_getElem?
   intro j
   by_cases hj:j < L.length
   ·exact HP.out j (by rw [HI.out];exact hj)
   ·rw [List.getElem?_eq_none (by omega),List.getElem?_eq_none (by have:=HL.out;omega)]
theorem cEqualG (sl sm:Value) (L M:List Sp) (w:World) (h:SpS w sl L) (h':SpS w sm M) (hL:L.length<=4194304) :
  Calls Tryz.prog 16 #[sl,sm] w fun e w'=>(∃r,e=.returned (.bool r)/\(r=true ↔ L=M))/\w.grownBy w' none:=by
 by_cases hl:M.length=L.length
 ·rcases h with ⟨rfl,rfl⟩ | ⟨a,cap,rfl,h2,h3⟩
  ·have hM:M=[]:=List.eq_nil_of_length_eq_zero (by simpa using hl)
   subst hM
   refine (cEqual _ _ [] w (Or.inl ⟨rfl,rfl⟩) h' (by simp)).mono ?_
   rintro e w' ⟨rfl,hg⟩
   exact ⟨⟨true,rfl,by simp⟩,hg⟩
  ·rcases h' with ⟨rfl,rfl⟩ | ⟨b,cap',rfl,h4,h5⟩
   ·have hM:L=[]:=List.eq_nil_of_length_eq_zero (by simpa using hl.symm)
    subst hM
    refine (cEqual _ _ [] w (Or.inr ⟨a,cap,rfl,h2,h3⟩) (Or.inl ⟨rfl,rfl⟩) (by simp)).mono ?_
    rintro e w' ⟨rfl,hg⟩
    exact ⟨⟨true,rfl,by simp⟩,hg⟩
   ·rw [hl]
    exact equal_gen a b cap cap' L M w hl (by omega) h2 (by omega) h3 h5
 ·obtain ⟨x,c,rfl⟩:∃x c,sl=.slice x L.length c:=by
   rcases h with ⟨rfl,rfl⟩ | ⟨a,cap,rfl,h2,h3⟩
   ·exact ⟨_,_,rfl⟩
   ·exact ⟨_,_,rfl⟩
  obtain ⟨y,d,rfl⟩:∃x c,sm=.slice x M.length c:=by
   rcases h' with ⟨rfl,rfl⟩ | ⟨a,cap,rfl,h2,h3⟩
   ·exact ⟨_,_,rfl⟩
   ·exact ⟨_,_,rfl⟩
  refine (equal_len x y _ _ c d w (fun e=>hl e.symm)).mono ?_
  rintro e w' ⟨rfl,hg⟩
  exact ⟨⟨false,rfl,by simp;intro h;exact hl (by rw [h])⟩,hg⟩
end Go.Proofs.YtonfldbigenfhaaGreatDoor
