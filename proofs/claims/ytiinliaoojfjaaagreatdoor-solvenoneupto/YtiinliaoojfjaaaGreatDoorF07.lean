import Derived.Test.YtiinliaoojfjaaaGreatDoorF02
import Derived.Test.YtiinliaoojfjaaaGreatDoorF01
import Derived.Deep.RegionHeld3
set_option linter.all false
set_option maxRecDepth 100000
set_option maxHeartbeats 0
open Go.Proofs.Tryz
namespace Go.Proofs.YtiinliaoojfjaaaGreatDoor
open Go.RowKit
theorem yO(x y:Int)(w:World):Calls prog 123 #[.int .i64 x,.int .i64 y] w fun e w'=>e=.returned (.int .i64 (Lib.compareInt x y))/\w'=w:=Any.cmp_Compare_int Tryz.lays122 x y w
theorem aar(s:ByteArray)(w:World):Calls prog 188 #[.string s,.string ⟨#[48]⟩] w fun e w'=>e=.returned (.string ⟨(dR s.data.toList).toArray⟩)/\w'=w:=Any.strings_TrimLeft_one Tryz.lays161 s 48 (by decide) w
theorem Q8(s:ByteArray)(w:World):Calls prog 201 #[.string s,.string ⟨#[46]⟩] w fun e w'=>e=.returned (.int .i64 (Lib.indexByte s.data.toList 46))/\w'=w:=Any.stringslite_Index_one Tryz.lays219 s 46 w
theorem xx:∀(a b:List UInt8),(Op.bytesLess a b=true->Lib.compareBytes a b=-1)/\(Op.bytesLess a b=false->(a == b)=false->Lib.compareBytes a b=1)/\((a == b)=true->Lib.compareBytes a b=0)
 | [],[]=>by simp[Op.bytesLess,Lib.compareBytes]
 | [],_ :: _=>by simp[Op.bytesLess,Lib.compareBytes]
 | _ :: _,[]=>by simp[Op.bytesLess,Lib.compareBytes]
 | x :: a,y :: b=>by
  obtain⟨h1,h2,h3⟩:=xx a b;unfold Op.bytesLess Lib.compareBytes
  by_cases hlt:x<y
  ·have hne:¬x=y:=fun e=>by rw[e]at hlt;exact UInt8.lt_irrefl y hlt
   simp[hlt,hne]
  ·by_cases heq:x=y
   ·subst heq;simp only[hlt,decide_false,Bool.false_or,beq_self_eq_true,Bool.true_and,if_false];refine⟨h1,fun p q=>h2 p (by simpa using q),fun q=>h3 (by simpa using q)⟩
   ·have hgt:=UInt8.lt_of_le_of_ne (UInt8.not_lt.1 hlt) (Ne.symm heq);simp[hlt,heq,hgt]
theorem Ei{a b:ByteArray}(h:Op.bytesLess a.toList b.toList=true):Lib.compareBytes a.data.toList b.data.toList=-1:=by
 rw[Lib.toList_data,Lib.toList_data]at h;exact(xx _ _).1 h
theorem G8{a b:ByteArray}(h:Op.bytesLess a.toList b.toList=false)(h':(!a.toList == b.toList)=true):Lib.compareBytes a.data.toList b.data.toList=1:=by
 rw[Lib.toList_data,Lib.toList_data]at h h';exact(xx _ _).2.1 h (by simpa using h')
theorem G9{a b:ByteArray}(h':(!a.toList == b.toList)=false):Lib.compareBytes a.data.toList b.data.toList=0:=by
 rw[Lib.toList_data,Lib.toList_data]at h';exact(xx _ _).2.2 (by simpa using h')
theorem Kq(s:ByteArray)(w:World):Calls prog 266 #[.string s] w fun e w'=>e=.returned (.bool false)/\w'=w:=by
 go_enter func266,ntmps266;go_wp2;go_ret;exact⟨rfl,rfl⟩
theorem aas(a b:ByteArray)(w:World):Calls prog 265 #[.string a,.string b] w fun e w'=>e=.returned (.int .i64 (Lib.compareBytes a.data.toList b.data.toList))/\w'=w:=by
 cases h1:Op.bytesLess a.toList b.toList with
 | true =>
  rw[Ei h1];go_enter func265,ntmps265;go_wp2_with (go_at_call 266;refine(Kq _ _).mono ?_;rintro e w' ⟨rfl,rfl⟩);go_ret;exact⟨rfl,rfl⟩
 | false =>
  cases h2:(!a.toList == b.toList) with
  | true =>
   rw[G8 h1 h2];go_enter func265,ntmps265;go_wp2_with (go_at_call 266;refine(Kq _ _).mono ?_;rintro e w' ⟨rfl,rfl⟩);go_ret;exact⟨rfl,rfl⟩
  | false =>
   rw[G9 h2];go_enter func265,ntmps265;go_wp2_with (go_at_call 266;refine(Kq _ _).mono ?_;rintro e w' ⟨rfl,rfl⟩);go_ret;exact⟨rfl,rfl⟩
theorem Kr(s:ByteArray)(w:World):Calls prog 269 #[.string s] w fun e w'=>e=.returned (.bool false)/\w'=w:=by
 go_enter func269,ntmps269;go_wp2;go_ret;exact⟨rfl,rfl⟩
theorem aat(a b:ByteArray)(w:World):Calls prog 268 #[.string a,.string b] w fun e w'=>e=.returned (.int .i64 (Lib.compareBytes a.data.toList b.data.toList))/\w'=w:=by
 cases h1:Op.bytesLess a.toList b.toList with
 | true =>
  rw[Ei h1];go_enter func268,ntmps268;go_wp2_with (go_at_call 269;refine(Kr _ _).mono ?_;rintro e w' ⟨rfl,rfl⟩);go_ret;exact⟨rfl,rfl⟩
 | false =>
  cases h2:(!a.toList == b.toList) with
  | true =>
   rw[G8 h1 h2];go_enter func268,ntmps268;go_wp2_with (go_at_call 269;refine(Kr _ _).mono ?_;rintro e w' ⟨rfl,rfl⟩);go_ret;exact⟨rfl,rfl⟩
  | false =>
   rw[G9 h2];go_enter func268,ntmps268;go_wp2_with (go_at_call 269;refine(Kr _ _).mono ?_;rintro e w' ⟨rfl,rfl⟩);go_ret;exact⟨rfl,rfl⟩
open Go.RowKit
theorem aau(s:ByteArray)(w:World)(hs:s.size<2 ^ 62) :
  Calls prog 186 #[.string s,.string ⟨#[46]⟩] w fun e w'=>e=.returned (.tuple #[.string ⟨(jP s.data.toList).toArray⟩,.string ⟨(kN s.data.toList).toArray⟩,.bool (jD s.data.toList)])/\∃n,w'=w.drewN n:=by
 rcases GL s.data.toList with⟨h1,h2⟩|⟨k,h1,h2,h3,h4⟩
 ·have e1:jP s.data.toList=s.data.toList:=by unfold jP;rw[if_pos h1]
  have e2:kN s.data.toList=[]:=by unfold kN;rw[if_pos h1]
  have e3:jD s.data.toList=false:=by unfold jD;rw[h1];rfl
  rw[e1,e2,e3];have HX:=ae h1;clear h1 h2 e1 e2 e3;go_enter func186,ntmps186;go_wp2_with (go_at_call 201;refine(Q8 _ _).mono ?_;rintro e w' ⟨rfl,rfl⟩;rw[HX.o])
  go_ret3
  exact⟨rfl,0,rfl⟩
 ·have hz:k<s.size:=by simpa using h2
  have e1:jP s.data.toList=s.data.toList.take k:=by unfold jP;rw[if_neg (by omega),h1];simp
  have e2:kN s.data.toList=s.data.toList.drop (k+1):=by unfold kN;rw[if_neg (by omega),h1];simp
  have e3:jD s.data.toList=true:=by unfold jD;simp;omega
  rw[e1,e2,e3];have HX:=ae h1;clear h1 h2 h3 h4 e1 e2 e3;obtain⟨X,hX⟩:∃X:ByteArray,X=⟨(s.data.toList.take k).toArray⟩:=⟨_,rfl⟩;obtain⟨Y,hY⟩:∃Y:ByteArray,Y=⟨(s.data.toList.drop (k+1)).toArray⟩:=⟨_,rfl⟩;rw[<-hX,<-hY];have s1:∀wx,(Instr.slice 9 (.string s) none (some (.int .i64 (k:Int))) none).run prog wx=.ok (.string X) wx:=fun wx=>by rw[hX];exact aad s k (by omega) wx
  have s2:∀wx,(Instr.slice 9 (.string s) (some (.int .i64 ((k:Int)+1))) none none).run prog wx=.ok (.string Y) wx:=fun wx=>by rw[hY];exact J6 s (k+1) (by omega) wx
  clear hX hY;go_enter func186,ntmps186;go_wp2_with (go_at_call 201;refine(Q8 _ _).mono ?_;rintro e w' ⟨rfl,rfl⟩;rw[HX.o]);go_quiet (fail);go_wp2
  go_ret3
  exact⟨rfl,_,rfl⟩
theorem Q9(s:ByteArray)(w:World)(hs:s.size<2 ^ 62) :
  Calls prog 161 #[.string s,.string ⟨#[46]⟩] w fun e w'=>e=.returned (.tuple #[.string ⟨(jP s.data.toList).toArray⟩,.string ⟨(kN s.data.toList).toArray⟩,.bool (jD s.data.toList)])/\∃n,w'=w.drewN n:=by
 go_enter func161,ntmps161;go_wp2_with (go_at_call 186;refine(aau _ _ hs).mono ?_;rintro e w' ⟨rfl,n,rfl⟩)
 go_ret3
 exact⟨rfl,n,rfl⟩
open Go.RowKit
def Gr(w w':World):Prop:=w.grownBy w' none/\w.drawn<=w'.drawn
theorem Ej(w:World):Gr w w:=⟨ai w none,Nat.le_refl _⟩
theorem qN{w w':World}(h:Gr w w')(n:Nat):Gr w (w'.drewN n):=⟨aH h.1 n,Nat.le_trans h.2 (by simp[World.drewN])⟩
theorem xy{w w1 w2:World}(h:Gr w w1)(h':Gr w1 w2):Gr w w2:=⟨ag h.1 h'.1,Nat.le_trans h.2 h'.2⟩
theorem Em{w w':World}(h:Gr w w')(o:Obj):Gr w (w'.alloc o):=⟨ak h.1 o,h.2⟩
theorem aav(w:World)(e:TypeId)(s:ByteArray):Gr w (Lib.bytesWorld w e s):=⟨J5 w e s,Nat.le_succ w.drawn⟩
end Go.Proofs.YtiinliaoojfjaaaGreatDoor
namespace Go.Proofs.YtiinliaoojfjaaaGreatDoor.G
open Go.RowKit
theorem GV(s:ByteArray)(w:World)(hs:s.size<2 ^ 62) :
  Calls prog 187 #[.string s] w fun e w'=>e=.returned (.bool (eH s.data.toList))/\Gr w w':=by
 have kc:=fun(w:World)=>Lib.run_convert_string_bytes (P:=prog) w 9 265 5 s underlying9 underlying265 underlying5
 obtain⟨W,hW⟩:=zN (Lib.bytesWorld w 5 s);have HC:Hd (∀j,(hj:j<s.size)->W.cell? ⟨w.heap.size,j,none⟩=some (.int .u8 (s[j].toNat:Int))):=by
  show ∀j,(hj:j<s.size)->W.cell? ⟨w.heap.size,j,none⟩=some (.int .u8 (s[j].toNat:Int));intro j hj;rw[<-hW,Lib.bytesWorld_cell w _ s j hj];have:s.data.toList.getD j 0=s[j]:=by
   rw[List.getD_eq_getElem?_getD,iR s j hj];rfl
  rw[this]
 have HG:Hd (Gr w W):=by show Gr w W;rw[<-hW];exact aav w _ s
 have kw:=kc w;rw[hW]at kw;clear kc hW;go_enter func187,ntmps187;go_wp2
 go_loop [8] (fun i=>∃k:Nat,k<=s.size/\i=.int .i64 k/\∀j,(hj:j<s.size)->j<k->aP s[j]=true) (fun i=>s.size-(intOf i).toNat)
 case atStart=>exact⟨0,Nat.zero_le _,rfl,fun j hj h=>absurd h (by omega)⟩
 case round =>
  obtain⟨k,hk,rfl,hp⟩:=hrel;have HP:=ae hp;clear hp
  by_cases hlt:k<s.size
  ·have ck:=HC.o k hlt
   cases hd:aP s[k] with
   | true =>
    go_wp2_with (go_at_call 179;refine(yM _ _).mono ?_;rintro e w' ⟨rfl,rfl⟩)
    go_round
    case rel =>
     refine⟨k+1,by omega,by go_num,fun j hj hjk=>?_⟩
     by_cases hjk':j<k
     ·exact HP.o j hj hjk'
     ·have e:j=k:=by omega
      subst e;exact hd
    case measure=>simp[intOf];omega
   | false =>
    have HN:Hd (eH s.data.toList=false):=by
     show eH s.data.toList=false;unfold eH;have:s.data.toList.all aP=false:=by
      rw[List.all_eq_false];exact⟨s[k],List.mem_of_getElem? (iR s k hlt),by simp[hd]⟩
     rw[this,Bool.and_false]
    go_wp2_with (go_at_call 179;refine(yM _ _).mono ?_;rintro e w' ⟨rfl,rfl⟩);go_ret;exact⟨bi HN.o.symm,HG.o⟩
  ·have hks:k=s.size:=by omega
   have HA:Hd (s.data.toList.all aP=true):=by
    show s.data.toList.all aP=true;rw[List.all_eq_true];intro c hc;obtain⟨j,hj,rfl⟩:=List.getElem_of_mem hc;exact HP.o j (by simpa using hj) (by simp at hj;have:s.size=s.data.size:=rfl;omega)
   clear hks hk;go_wp2;go_ret;refine⟨bi ?_,HG.o⟩;unfold eH;rw[Lib.toList_data,HA.o,Bool.and_true]
end Go.Proofs.YtiinliaoojfjaaaGreatDoor.G
namespace Go.Proofs.YtiinliaoojfjaaaGreatDoor.G
open Go.RowKit
def mO(l:List UInt8):Value:=if eH l then .iface 269 (.string ⟨(dR l).toArray⟩) else .iface 271 (.string ⟨l.toArray⟩)
theorem Rf(s:ByteArray)(w:World)(hs:s.size<2 ^ 62) :
  Calls prog 162 #[.string s] w fun e w'=>e=.returned (mO s.data.toList)/\Gr w w':=by
 unfold mO
 cases hn:eH s.data.toList with
 | true =>
  have HN:=ae hn;clear hn;rw[if_pos rfl];go_enter func162,ntmps162;go_wp2_with (first|(go_at_call 187;refine(GV _ _ hs).mono ?_;rw[HN.o];rintro e w1 ⟨rfl,hg1⟩)|(go_at_call 188;refine(aar _ _).mono ?_;rintro e w' ⟨rfl,rfl⟩));go_ret;exact⟨rfl,hg1⟩
 | false =>
  have HN:=ae hn;clear hn;rw[if_neg (by simp)];go_enter func162,ntmps162;go_wp2_with (go_at_call 187;refine(GV _ _ hs).mono ?_;rw[HN.o];rintro e w1 ⟨rfl,hg1⟩);go_ret;exact⟨rfl,hg1⟩
theorem Rh(b:ByteArray)(w:World):(Instr.typeAssert (.iface 269 (.string b)) 234 269 true).run prog w=.ok (.tuple #[.string b,.bool true]) w:=by kernel_rfl
theorem aaw(b:ByteArray)(w:World):(Instr.typeAssert (.iface 271 (.string b)) 234 269 true).run prog w=.ok (.tuple #[.string ⟨#[]⟩,.bool false]) w:=by kernel_rfl
theorem aax(b:ByteArray)(w:World):(Instr.typeAssert (.iface 271 (.string b)) 234 271 true).run prog w=.ok (.tuple #[.string b,.bool true]) w:=by kernel_rfl
theorem aay(b:ByteArray)(w:World):(Instr.typeAssert (.iface 269 (.string b)) 234 271 true).run prog w=.ok (.tuple #[.string ⟨#[]⟩,.bool false]) w:=by kernel_rfl
theorem aaz(a b:ByteArray)(w:World)(h:a.size=b.size):Calls prog 264 #[.string a,.iface 269 (.string b)] w fun e w'=>e=.returned (.int .i64 (Lib.compareBytes a.data.toList b.data.toList))/\∃n,w'=w.drewN n:=by
 have ta:=Rh b;have hd:((a.size:Int) == (b.size:Int))=true:=by simp;omega
 clear h;go_enter func264,ntmps264;go_wp2_with (go_at_call 265;refine(aas _ _ _).mono ?_;rintro e w' ⟨rfl,rfl⟩);go_ret;exact⟨rfl,0,rfl⟩
theorem aaA(a b:ByteArray)(w:World)(h:¬a.size=b.size):Calls prog 264 #[.string a,.iface 269 (.string b)] w fun e w'=>e=.returned (.int .i64 (Lib.compareInt a.size b.size))/\∃n,w'=w.drewN n:=by
 have ta:=Rh b;have hd:((a.size:Int) == (b.size:Int))=false:=by simp;omega
 clear h;go_enter func264,ntmps264;go_wp2_with (go_at_call 123;refine(yO _ _ _).mono ?_;rintro e w' ⟨rfl,rfl⟩);go_ret;exact⟨rfl,0,rfl⟩
theorem aaB(a b:ByteArray)(w:World):Calls prog 264 #[.string a,.iface 271 (.string b)] w fun e w'=>e=.returned (.int .i64 (-1))/\∃n,w'=w.drewN n:=by
 have ta:=aaw b;go_enter func264,ntmps264;go_wp2;go_ret;exact⟨rfl,0,rfl⟩
theorem aaC(a b:ByteArray)(w:World):Calls prog 267 #[.string a,.iface 269 (.string b)] w fun e w'=>e=.returned (.int .i64 1)/\∃n,w'=w.drewN n:=by
 have ta:=aay b;go_enter func267,ntmps267;go_wp2;go_ret;exact⟨rfl,0,rfl⟩
theorem aaD(a b:ByteArray)(w:World):Calls prog 267 #[.string a,.iface 271 (.string b)] w fun e w'=>e=.returned (.int .i64 (Lib.compareBytes a.data.toList b.data.toList))/\∃n,w'=w.drewN n:=by
 have ta:=aax b;go_enter func267,ntmps267;go_wp2_with (go_at_call 268;refine(aat _ _ _).mono ?_;rintro e w' ⟨rfl,rfl⟩);go_ret;exact⟨rfl,0,rfl⟩
end Go.Proofs.YtiinliaoojfjaaaGreatDoor.G
namespace Go.Proofs.YtiinliaoojfjaaaGreatDoor.G
open Go.RowKit
theorem emp_t{a:ByteArray}(h:a.size=0):a.toList.isEmpty=true:=by
 rw[Lib.toList_data,List.isEmpty_iff];exact List.length_eq_zero_iff.1 (by simpa using h)
theorem emp_f{a:ByteArray}(h:a.size≠0):a.toList.isEmpty=false:=by
 rw[Lib.toList_data]
 cases hl:a.data.toList with
 | nil=>exact absurd (show a.size=0 from by show a.data.size=0;rw[<-Array.length_toList,hl];rfl) h
 | cons c l=>rfl
theorem aaE(a b:ByteArray)(w:World)(h:a.size=0\/b.size=0) :
  Calls prog 134 #[.string a,.string b] w fun e w'=>e=.returned (.int .i64 (lg a.data.toList b.data.toList))/\Gr w w':=by
 have HE:Hd (lg a.data.toList b.data.toList=Lib.compareInt b.size a.size):=by
  show lg a.data.toList b.data.toList=Lib.compareInt b.size a.size;rw[JY]
  ·simp
  ·rcases h with h|h
   ·left;exact List.length_eq_zero_iff.1 (by simpa using h)
   ·right;exact List.length_eq_zero_iff.1 (by simpa using h)
 rw[HE.o]
 by_cases ha:a.size=0
 ·have c1:=emp_t ha;have HA:=ae ha;clear h ha;go_enter func134,ntmps134;go_wp2_with (go_at_call 123;refine(yO _ _ _).mono ?_;rintro e w' ⟨rfl,rfl⟩)
  all_goals (go_ret;exact⟨rfl,Ej _⟩)
 ·have c1:=emp_f ha;have c2:=emp_t (h.resolve_left ha);clear h ha;go_enter func134,ntmps134;go_wp2_with (go_at_call 123;refine(yO _ _ _).mono ?_;rintro e w' ⟨rfl,rfl⟩)
  all_goals (go_ret;exact⟨rfl,Ej _⟩)
def Kt:Value->Nat
 | .string s=>s.size
 | _=>0
theorem aaF(P Q:List UInt8) :
  (∃X1 T2 X2,mO P=.iface 269 (.string X1)/\mO Q=.iface T2 (.string X2)/\∀w,Calls prog 264 #[.string X1,.iface T2 (.string X2)] w fun e w'=>e=.returned (.int .i64 (dS P Q))/\∃n,w'=w.drewN n) ∨
  (∃X1 T2 X2,mO P=.iface 271 (.string X1)/\mO Q=.iface T2 (.string X2)/\∀w,Calls prog 267 #[.string X1,.iface T2 (.string X2)] w fun e w'=>e=.returned (.int .i64 (dS P Q))/\∃n,w'=w.drewN n):=by
 cases hp:eH P with
 | true =>
  left
  cases hq:eH Q with
  | true =>
   refine⟨⟨(dR P).toArray⟩,_,⟨(dR Q).toArray⟩,by unfold mO;rw[hp];rfl,by unfold mO;rw[hq];rfl,fun w=>?_⟩;rw[Qy hp hq];have s1:(⟨(dR P).toArray⟩:ByteArray).size=(dR P).length:=by show(dR P).toArray.size=_;simp
   have s2:(⟨(dR Q).toArray⟩:ByteArray).size=(dR Q).length:=by show(dR Q).toArray.size=_;simp
   by_cases h:((dR P).length:Int)=(dR Q).length
   ·rw[if_pos h];exact aaz _ _ w (by rw[s1,s2];omega)
   ·rw[if_neg h];have:=aaA ⟨(dR P).toArray⟩ ⟨(dR Q).toArray⟩ w (by rw[s1,s2];omega);rw[s1,s2]at this;exact this
  | false =>
   refine⟨⟨(dR P).toArray⟩,_,⟨Q.toArray⟩,by unfold mO;rw[hp];rfl,by unfold mO;rw[hq];rfl,fun w=>?_⟩;rw[Qz hp hq];exact aaB _ _ w
 | false =>
  right
  cases hq:eH Q with
  | true =>
   refine⟨⟨P.toArray⟩,_,⟨(dR Q).toArray⟩,by unfold mO;rw[hp];rfl,by unfold mO;rw[hq];rfl,fun w=>?_⟩;rw[QA hp hq];exact aaC _ _ w
  | false =>
   refine⟨⟨P.toArray⟩,_,⟨Q.toArray⟩,by unfold mO;rw[hp];rfl,by unfold mO;rw[hq];rfl,fun w=>?_⟩;rw[QB hp hq];exact aaD _ _ w
theorem aaG(a b:ByteArray)(w:World)(ha:a.size≠0)(hb:b.size≠0)(hs:a.size<2 ^ 62)(hs':b.size<2 ^ 62) :
  Calls prog 134 #[.string a,.string b] w fun e w'=>e=.returned (.int .i64 (dm dS (aV a.data.toList) (aV b.data.toList)))/\Gr w w':=by
 have c1:=emp_f ha;have c2:=emp_f hb;obtain⟨R,hR⟩:∃R,R=dm dS (aV a.data.toList) (aV b.data.toList):=⟨_,rfl⟩;rw[<-hR];have HR:=ae hR;clear hR ha hb;go_enter func134,ntmps134;go_wp2_with (fail);go_loopw [0,1] (fun va vb wr=>∃x y:ByteArray,va=.string x/\vb=.string y/\x.size<2 ^ 62/\y.size<2 ^ 62/\R=dm dS (aV x.data.toList) (aV y.data.toList)/\Gr w wr) (fun va _ _=>Kt va)
 case atStart=>exact⟨a,b,rfl,rfl,hs,hs',HR.o,Ej _⟩
 case round =>
  obtain⟨x,y,rfl,rfl,hx,hy,hr,hgb⟩:=hrel;have HX:=ae hr;have HG:=ae hgb;have HB:Hd (x.size<2 ^ 62/\y.size<2 ^ 62):=⟨hx,hy⟩;obtain⟨P1,hP1⟩:∃P1,P1=jP x.data.toList:=⟨_,rfl⟩;obtain⟨P2,hP2⟩:∃P2,P2=kN x.data.toList:=⟨_,rfl⟩;obtain⟨P3,hP3⟩:∃P3,P3=jD x.data.toList:=⟨_,rfl⟩;obtain⟨Q1,Ha⟩:∃Q1,Q1=jP y.data.toList:=⟨_,rfl⟩;obtain⟨Q2,hQ2⟩:∃Q2,Q2=kN y.data.toList:=⟨_,rfl⟩;obtain⟨Q3,Ku⟩:∃Q3,Q3=jD y.data.toList:=⟨_,rfl⟩;have HP:Hd (P1=jP x.data.toList/\P2=kN x.data.toList/\P3=jD x.data.toList):=⟨hP1,hP2,hP3⟩;have HQ:Hd (Q1=jP y.data.toList/\Q2=kN y.data.toList/\Q3=jD y.data.toList):=⟨Ha,hQ2,Ku⟩;have C1:=fun w=>Q9 x w hx
  rw[<-hP1,<-hP2,<-hP3]at C1;have C2:=fun w=>Q9 y w hy
  rw[<-Ha,<-hQ2,<-Ku]at C2;have p1:(⟨P1.toArray⟩:ByteArray).size<2 ^ 62:=by
   have:=QC x.data.toList;rw[<-hP1]at this;show P1.toArray.size < _;simp at this ⊢;omega
  have q1:(⟨Q1.toArray⟩:ByteArray).size<2 ^ 62:=by
   have:=QC y.data.toList;rw[<-Ha]at this;show Q1.toArray.size < _;simp at this ⊢;omega
  have D1:Hd (∀w,Calls prog 162 #[.string ⟨P1.toArray⟩] w fun e w'=>e=.returned (mO P1)/\Gr w w'):=fun w=>Rf ⟨P1.toArray⟩ w p1
  have D2:Hd (∀w,Calls prog 162 #[.string ⟨Q1.toArray⟩] w fun e w'=>e=.returned (mO Q1)/\Gr w w'):=fun w=>Rf ⟨Q1.toArray⟩ w q1
  have tX:=ae C1;have HC2:=ae C2;clear hP1 hP2 hP3 Ha hQ2 Ku C1 C2 p1 q1 hr hgb hx hy;obtain⟨O,hO⟩:∃O,O=dS P1 Q1:=⟨_,rfl⟩;have HS:Hd (R=if O=0 then(if P3=true then(if Q3=true then dm dS (aV P2) (aV Q2) else 1) else(if Q3=true then -1 else 0)) else O):=by
   show R=_;have h1:=HP.o;have h2:=HQ.o;rw[HX.o,ZV,<-h1.1,<-h1.2.1,<-h1.2.2,<-h2.1,<-h2.2.1,<-h2.2.2,<-hO]
  have HL:Hd ((P3=true->P2.length<x.size)/\P2.length<2 ^ 62/\Q2.length<2 ^ 62):=by
   have h1:=HP.o;have h2:=HQ.o;have h3:=HB.o;have z1:x.data.toList.length=x.size:=by simp
   have z2:y.data.toList.length=y.size:=by simp
   have l1:=QE x.data.toList;have l2:=QE y.data.toList;rw[<-h1.2.1]at l1;rw[<-h2.2.1]at l2;refine⟨fun h=>?_,by omega,by omega⟩;have:=(GM (h1.2.2 ▸ h:jD x.data.toList=true)).2;rw[<-h1.2.1]at this;omega
  rcases aaF P1 Q1 with⟨X1,T2,X2,hv1,hv2,ho⟩|⟨X1,T2,X2,hv1,hv2,ho⟩
  ·rw[<-hO]at ho;rw[hv1]at D1;rw[hv2]at D2;have H0:=ae ho;clear ho hv1 hv2 hO;have na:∀w,(nilAhead 440 269 (.string X1) "pantry/ver.order").run prog w=.ok (some false) w:=fun w=>by kernel_rfl
   have hm:∀w,(method 440 269 (.string X1) "pantry/ver.order").run prog w=.ok (264,.string X1) w:=fun w=>by kernel_rfl
   go_wp2_with (go_at_call 161;refine(tX.o _).mono ?_);rintro e w1 ⟨rfl,n1,rfl⟩;go_wp2_with (go_at_call 161;refine(HC2.o _).mono ?_);rintro e w1 ⟨rfl,n2,rfl⟩;go_wp2;go_region_with (first|(go_at_call_of 162 (Value.string ⟨P1.toArray⟩);refine(D1.o _).mono ?_;rintro e w3 ⟨rfl,hg3⟩)|(go_at_call_of 162 (Value.string ⟨Q1.toArray⟩);refine(D2.o _).mono ?_;rintro e w4 ⟨rfl,hg4⟩)|(go_at_call 264;refine(H0.o _).mono ?_;rintro e w5 ⟨rfl,n5,rfl⟩))
   all_goals
    have GB:=ae (xy (xy (qN HG.o _) hg3) hg4);clear hg3 hg4 na hm
    cases hz:(O == 0) with
    | false =>
     have HZ:Hd (R=O):=by
      show R=O;rw[HS.o,if_neg (by simpa using hz)]
     go_wp2;go_ret;exact⟨bF HZ.o.symm,qN GB.o _⟩
    | true =>
     have HZ:Hd (O=0):=by
      show O=0;simpa using hz
     cases P3 with
     | true =>
      cases Q3 with
      | true =>
       go_wp2;go_roundw
       case rel =>
        refine⟨⟨P2.toArray⟩,⟨Q2.toArray⟩,rfl,rfl,?_,?_,?_,qN GB.o _⟩
        ·show P2.toArray.size < _;have:=HL.o.2.1;simpa using this
        ·show Q2.toArray.size < _;have:=HL.o.2.2;simpa using this
        ·rw[HS.o,if_pos HZ.o];rfl
       case measure =>
        have:=HL.o.1 rfl;show P2.toArray.size<x.size;simpa using this
      | false =>
       have HE:Hd (R=1):=by show R=1;rw[HS.o,if_pos HZ.o];rfl
       go_wp2;go_ret;exact⟨bF HE.o.symm,qN GB.o _⟩
     | false =>
      cases Q3 with
      | true =>
       have HE:Hd (R=-1):=by show R=-1;rw[HS.o,if_pos HZ.o];rfl
       go_wp2;go_ret;exact⟨bF HE.o.symm,qN GB.o _⟩
      | false =>
       have HE:Hd (R=0):=by show R=0;rw[HS.o,if_pos HZ.o];rfl
       go_wp2;go_ret;exact⟨bF HE.o.symm,qN GB.o _⟩
  ·rw[<-hO]at ho;rw[hv1]at D1;rw[hv2]at D2;have H0:=ae ho;clear ho hv1 hv2 hO;have na:∀w,(nilAhead 440 271 (.string X1) "pantry/ver.order").run prog w=.ok (some false) w:=fun w=>by kernel_rfl
   have hm:∀w,(method 440 271 (.string X1) "pantry/ver.order").run prog w=.ok (267,.string X1) w:=fun w=>by kernel_rfl
   go_wp2_with (go_at_call 161;refine(tX.o _).mono ?_);rintro e w1 ⟨rfl,n1,rfl⟩;go_wp2_with (go_at_call 161;refine(HC2.o _).mono ?_);rintro e w1 ⟨rfl,n2,rfl⟩;go_wp2;go_region_with (first|(go_at_call_of 162 (Value.string ⟨P1.toArray⟩);refine(D1.o _).mono ?_;rintro e w3 ⟨rfl,hg3⟩)|(go_at_call_of 162 (Value.string ⟨Q1.toArray⟩);refine(D2.o _).mono ?_;rintro e w4 ⟨rfl,hg4⟩)|(go_at_call 267;refine(H0.o _).mono ?_;rintro e w5 ⟨rfl,n5,rfl⟩))
   all_goals
    have GB:=ae (xy (xy (qN HG.o _) hg3) hg4);clear hg3 hg4 na hm
    cases hz:(O == 0) with
    | false =>
     have HZ:Hd (R=O):=by
      show R=O;rw[HS.o,if_neg (by simpa using hz)]
     go_wp2;go_ret;exact⟨bF HZ.o.symm,qN GB.o _⟩
    | true =>
     have HZ:Hd (O=0):=by
      show O=0;simpa using hz
     cases P3 with
     | true =>
      cases Q3 with
      | true =>
       go_wp2;go_roundw
       case rel =>
        refine⟨⟨P2.toArray⟩,⟨Q2.toArray⟩,rfl,rfl,?_,?_,?_,qN GB.o _⟩
        ·show P2.toArray.size < _;have:=HL.o.2.1;simpa using this
        ·show Q2.toArray.size < _;have:=HL.o.2.2;simpa using this
        ·rw[HS.o,if_pos HZ.o];rfl
       case measure =>
        have:=HL.o.1 rfl;show P2.toArray.size<x.size;simpa using this
      | false =>
       have HE:Hd (R=1):=by show R=1;rw[HS.o,if_pos HZ.o];rfl
       go_wp2;go_ret;exact⟨bF HE.o.symm,qN GB.o _⟩
     | false =>
      cases Q3 with
      | true =>
       have HE:Hd (R=-1):=by show R=-1;rw[HS.o,if_pos HZ.o];rfl
       go_wp2;go_ret;exact⟨bF HE.o.symm,qN GB.o _⟩
      | false =>
       have HE:Hd (R=0):=by show R=0;rw[HS.o,if_pos HZ.o];rfl
       go_wp2;go_ret;exact⟨bF HE.o.symm,qN GB.o _⟩
theorem aaH(a b:ByteArray)(w:World)(hs:a.size<2 ^ 62)(hs':b.size<2 ^ 62) :
  Calls prog 134 #[.string a,.string b] w fun e w'=>e=.returned (.int .i64 (lg a.data.toList b.data.toList))/\Gr w w':=by
 by_cases h:a.size=0\/b.size=0
 ·exact aaE a b w h
 ·have ha:a.size≠0:=fun e=>h (Or.inl e)
  have hb:b.size≠0:=fun e=>h (Or.inr e)
  rw[QF a.data.toList b.data.toList (fun e=>ha (by show a.data.size=0;rw[<-Array.length_toList,e];rfl)) (fun e=>hb (by show b.data.size=0;rw[<-Array.length_toList,e];rfl))];exact aaG a b w ha hb hs hs'
end Go.Proofs.YtiinliaoojfjaaaGreatDoor.G
namespace Go.Proofs.YtiinliaoojfjaaaGreatDoor.G
open Go.RowKit
def tY(x y z:Int):Int:=if x=0 then(if y=0 then z else y) else x
theorem aaI(x y z:Int)(b:Nat)(w:World)(h0:w.cell? ⟨b,0,none⟩=some (.int .i64 x))(h1:w.cell? ⟨b,1,none⟩=some (.int .i64 y))(h2:w.cell? ⟨b,2,none⟩=some (.int .i64 z)) :
  Calls prog 121 #[.slice (some ⟨b,0,none⟩) 3 3] w fun e w'=>e=.returned (.int .i64 (tY x y z))/\w'=w:=by
 obtain⟨R,hR⟩:∃R,R=tY x y z:=⟨_,rfl⟩;have HR:=ae hR;rw[<-hR];clear hR;go_enter func121,ntmps121;go_wp2
 go_loop [8] (fun i=>∃k:Nat,k<=3/\i=.int .i64 k/\(1<=k->x=0)/\(2<=k->y=0)/\(3<=k->z=0)) (fun i=>3-(intOf i).toNat)
 case atStart=>exact⟨0,by omega,rfl,by omega,by omega,by omega⟩
 case round =>
  obtain⟨k,hk,rfl,k1,k2,k3⟩:=hrel
  rcases(show k=0\/k=1\/k=2\/k=3 by omega) with rfl|rfl|rfl|rfl
  ·clear k1 k2 k3 hk
   cases hz:(x == 0) with
   | true =>
    have hx:x=0:=by simpa using hz
    go_wp2
    go_round
    case rel=>exact⟨1,by omega,rfl,fun _=>hx,by omega,by omega⟩
    case measure=>simp[intOf]
   | false =>
    have HZ:Hd (R=x):=by show R=x;rw[HR.o];unfold tY;rw[if_neg (by simpa using hz)]
    go_wp2;go_ret;exact⟨bF HZ.o.symm,rfl⟩
  ·have hx:=ae (k1 (by omega));clear k1 k2 k3 hk
   cases hz:(y == 0) with
   | true =>
    have hy:y=0:=by simpa using hz
    go_wp2
    go_round
    case rel=>exact⟨2,by omega,rfl,fun _=>hx.o,fun _=>hy,by omega⟩
    case measure=>simp[intOf]
   | false =>
    have HZ:Hd (R=y):=by show R=y;rw[HR.o];unfold tY;rw[if_pos hx.o,if_neg (by simpa using hz)]
    go_wp2;go_ret;exact⟨bF HZ.o.symm,rfl⟩
  ·have hx:=ae (k1 (by omega));have hy:=ae (k2 (by omega));clear k1 k2 k3 hk;have HZ:Hd (R=z):=by show R=z;rw[HR.o];unfold tY;rw[if_pos hx.o,if_pos hy.o]
   cases hz:(z == 0) with
   | true =>
    have hy':z=0:=by simpa using hz
    go_wp2
    go_round
    case rel=>exact⟨3,by omega,rfl,fun _=>hx.o,fun _=>hy.o,fun _=>hy'⟩
    case measure=>simp[intOf]
   | false =>
    go_wp2;go_ret;exact⟨bF HZ.o.symm,rfl⟩
  ·have HZ:Hd (R=0):=by show R=0;rw[HR.o];unfold tY;rw[if_pos (k1 (by omega)),if_pos (k2 (by omega)),k3 (by omega)]
   clear k1 k2 k3 hk;go_wp2;go_ret;exact⟨bF HZ.o.symm,rfl⟩
theorem aaJ(a b:V):aB a b=if tY (Lib.compareInt a.major b.major) (Lib.compareInt a.minor b.minor) (Lib.compareInt a.patch b.patch)=0 then lg a.pre b.pre else tY (Lib.compareInt a.major b.major) (Lib.compareInt a.minor b.minor) (Lib.compareInt a.patch b.patch):=by
 rw[qH];unfold tY
 repeat' split
 all_goals first|rfl|(exfalso;omega)|omega
theorem compare_any(a1 a2 a3 b1 b2 b3:Int)(a4 a5 b4 b5:ByteArray)(w:World)(hs:a4.size<2 ^ 62)(hs':b4.size<2 ^ 62) :
  Calls prog 122 #[.agg #[.int .i64 a1,.int .i64 a2,.int .i64 a3,.string a4,.string a5],.agg #[.int .i64 b1,.int .i64 b2,.int .i64 b3,.string b4,.string b5]] w fun e w'=>e=.returned (.int .i64 (aB ⟨a1,a2,a3,a4.data.toList⟩ ⟨b1,b2,b3,b4.data.toList⟩))/\Gr w w':=by
 obtain⟨R,hR⟩:∃R,R=aB ⟨a1,a2,a3,a4.data.toList⟩ ⟨b1,b2,b3,b4.data.toList⟩:=⟨_,rfl⟩;obtain⟨x,hx⟩:∃x,x=Lib.compareInt a1 b1:=⟨_,rfl⟩;obtain⟨y,hy⟩:∃y,y=Lib.compareInt a2 b2:=⟨_,rfl⟩;obtain⟨z,hz⟩:∃z,z=Lib.compareInt a3 b3:=⟨_,rfl⟩;obtain⟨p,hp⟩:∃p,p=lg a4.data.toList b4.data.toList:=⟨_,rfl⟩;obtain⟨o,ho⟩:∃o,o=tY x y z:=⟨_,rfl⟩;have HR:Hd (R=if o=0 then p else o):=by
  show R=if o=0 then p else o;rw[hR,aaJ,ho,hx,hy,hz,hp]
 have C1:Hd (∀w,Calls prog 123 #[.int .i64 a1,.int .i64 b1] w fun e w'=>e=.returned (.int .i64 x)/\w'=w):=fun w=>by rw[hx];exact yO _ _ w
 have C2:Hd (∀w,Calls prog 123 #[.int .i64 a2,.int .i64 b2] w fun e w'=>e=.returned (.int .i64 y)/\w'=w):=fun w=>by rw[hy];exact yO _ _ w
 have C3:Hd (∀w,Calls prog 123 #[.int .i64 a3,.int .i64 b3] w fun e w'=>e=.returned (.int .i64 z)/\w'=w):=fun w=>by rw[hz];exact yO _ _ w
 have CP:Hd (∀w,Calls prog 134 #[.string a4,.string b4] w fun e w'=>e=.returned (.int .i64 p)/\Gr w w'):=fun w=>by rw[hp];exact aaH a4 b4 w hs hs'
 have CO:Hd (∀(b:Nat) (w:World),w.cell? ⟨b,0,none⟩=some (.int .i64 x)->w.cell? ⟨b,1,none⟩=some (.int .i64 y)->w.cell? ⟨b,2,none⟩=some (.int .i64 z)->Calls prog 121 #[.slice (some ⟨b,0,none⟩) 3 3] w fun e w'=>e=.returned (.int .i64 o)/\w'=w):=fun b w h0 h1 h2=>by rw[ho];exact aaI x y z b w h0 h1 h2
 rw[<-hR];clear hR hx hy hz hp ho hs hs';go_enter func122,ntmps122;go_wp2;obtain⟨W,hW⟩:=zN ((w.alloc (.cells #[.int .i64 a1,.int .i64 a2,.int .i64 a3,.string a4,.string a5] 150)).alloc (.cells #[.int .i64 b1,.int .i64 b2,.int .i64 b3,.string b4,.string b5] 150));rw[hW];have g1:W.heap[w.heap.size]?=some (.cells #[.int .i64 a1,.int .i64 a2,.int .i64 a3,.string a4,.string a5] 150 (0,0)):=by
  rw[<-hW,Lib.alloc_old _ _ _ (by simp)];exact heap_alloc_new w _
 have g2:W.heap[w.heap.size+1]?=some (.cells #[.int .i64 b1,.int .i64 b2,.int .i64 b3,.string b4,.string b5] 150 (0,0)):=by
  rw[<-hW];have:=heap_alloc_new (w.alloc (.cells #[.int .i64 a1,.int .i64 a2,.int .i64 a3,.string a4,.string a5] 150)) (.cells #[.int .i64 b1,.int .i64 b2,.int .i64 b3,.string b4,.string b5] 150);rw[show(w.alloc (.cells #[.int .i64 a1,.int .i64 a2,.int .i64 a3,.string a4,.string a5] 150)).heap.size=w.heap.size+1 by simp]at this;exact this
 have bD:Hd (Gr w W):=by
  show Gr w W;rw[<-hW];exact⟨⟨rfl,rfl,rfl,by simp;omega,fun k hk _=>by rw[Lib.alloc_old _ _ _ (by simp;omega),Lib.alloc_old _ _ _ hk]⟩,Nat.le_refl _⟩
 have nN:Hd (W.heap.size=w.heap.size+2):=by
  show W.heap.size=w.heap.size+2;rw[<-hW];simp
 obtain⟨A,hA⟩:=zN (w.heap.size);rw[hA]at g1 g2;rw[hA];have HA:Hd (W.heap.size=A+2):=by
  show W.heap.size=A+2;rw[<-hA];exact nN.o
 have c0:W.cell? ⟨A,0,none⟩=some (.int .i64 a1):=by rw[ah g1];rfl
 have c1:W.cell? ⟨A,1,none⟩=some (.int .i64 a2):=by rw[ah g1];rfl
 have c2:W.cell? ⟨A,2,none⟩=some (.int .i64 a3):=by rw[ah g1];rfl
 have c3:Hd (W.cell? ⟨A,3,none⟩=some (.string a4)):=by show W.cell? _=_;rw[ah g1];rfl
 have d0:W.cell? ⟨A+1,0,none⟩=some (.int .i64 b1):=by rw[ah g2];rfl
 have d1:W.cell? ⟨A+1,1,none⟩=some (.int .i64 b2):=by rw[ah g2];rfl
 have d2:W.cell? ⟨A+1,2,none⟩=some (.int .i64 b3):=by rw[ah g2];rfl
 have d3:Hd (W.cell? ⟨A+1,3,none⟩=some (.string b4)):=by show W.cell? _=_;rw[ah g2];rfl
 clear hW hA nN g1 g2
 go_region_held3 (fun w'=>w'.cell? ⟨A,0,none⟩=some (.int .i64 a1)/\w'.cell? ⟨A,1,none⟩=some (.int .i64 a2)/\w'.cell? ⟨A,2,none⟩=some (.int .i64 a3)/\w'.cell? ⟨A+1,0,none⟩=some (.int .i64 b1)/\w'.cell? ⟨A+1,1,none⟩=some (.int .i64 b2)/\w'.cell? ⟨A+1,2,none⟩=some (.int .i64 b3)) (go_keep) (first|(go_at_call_of 123 (Value.int .i64 a1);refine(C1.o _).mono ?_;rintro e w' ⟨rfl,rfl⟩)|(go_at_call_of 123 (Value.int .i64 a2);refine(C2.o _).mono ?_;rintro e w' ⟨rfl,rfl⟩)|(go_at_call_of 123 (Value.int .i64 a3);refine(C3.o _).mono ?_;rintro e w' ⟨rfl,rfl⟩)|(go_at_call 121;refine(CO.o _ _ (by simp) (by simp) (by simp)).mono ?_;rintro e w' ⟨rfl,rfl⟩))
 obtain⟨W2,hW2⟩:=zN ((W.alloc (.cells #[.int .i64 x,.int .i64 y,.int .i64 z] 3)).drew);rw[hW2];have hlt:A<W.heap.size/\A+1<W.heap.size:=by have:=HA.o;omega
 have e3:W2.cell? ⟨A,3,none⟩=some (.string a4):=by
  rw[<-hW2];exact(World.cell?_of_block (show((W.alloc _).drew).heap[A]?=W.heap[A]? from Lib.alloc_old W _ A hlt.1)).trans c3.o
 have f3:W2.cell? ⟨A+1,3,none⟩=some (.string b4):=by
  rw[<-hW2];exact(World.cell?_of_block (show((W.alloc _).drew).heap[A+1]?=W.heap[A+1]? from Lib.alloc_old W _ (A+1) hlt.2)).trans d3.o
 have HG2:Hd (Gr w W2):=by
  show Gr w W2;rw[<-hW2];have h1:Gr W ((W.alloc (.cells #[.int .i64 x,.int .i64 y,.int .i64 z] 3)).drew):=⟨⟨rfl,rfl,rfl,by simp,fun k hk _=>Lib.alloc_old W _ k hk⟩,Nat.le_succ _⟩;exact xy bD.o h1
 clear hW2 hlt c0 c1 c2 c3 d0 d1 d2 d3 HA bD C1 C2 C3 CO
 cases hz:(o == 0) with
 | false =>
  have HZ:Hd (R=o):=by show R=o;rw[HR.o,if_neg (by simpa using hz)]
  go_wp2;go_ret;exact⟨bF HZ.o.symm,HG2.o⟩
 | true =>
  have HZ:Hd (R=p):=by show R=p;rw[HR.o,if_pos (by simpa using hz)]
  go_wp2_with (go_at_call 134;refine(CP.o _).mono ?_;rintro e w4 ⟨rfl,hg4⟩);go_ret;exact⟨bF HZ.o.symm,xy HG2.o hg4⟩
end Go.Proofs.YtiinliaoojfjaaaGreatDoor.G
namespace Go.Proofs.YtiinliaoojfjaaaGreatDoor
open Go.RowKit
theorem emp_t{a:ByteArray}(h:a.size=0):a.toList.isEmpty=true:=G.emp_t h
theorem emp_f{a:ByteArray}(h:a.size≠0):a.toList.isEmpty=false:=G.emp_f h
def Kt:Value->Nat
 | .string s=>s.size
 | _=>0
theorem compare_any(a1 a2 a3 b1 b2 b3:Int)(a4 a5 b4 b5:ByteArray)(w:World)(hs:a4.size<2 ^ 62)(hs':b4.size<2 ^ 62) :
  Calls prog 122 #[.agg #[.int .i64 a1,.int .i64 a2,.int .i64 a3,.string a4,.string a5],.agg #[.int .i64 b1,.int .i64 b2,.int .i64 b3,.string b4,.string b5]] w fun e w'=>e=.returned (.int .i64 (aB ⟨a1,a2,a3,a4.data.toList⟩ ⟨b1,b2,b3,b4.data.toList⟩))/\w.grownBy w' none :=
 (G.compare_any a1 a2 a3 b1 b2 b3 a4 a5 b4 b5 w hs hs').mono fun e w' ⟨h1,h2⟩=>⟨h1,h2.1⟩
open Go.RowKit
theorem vF(x y:Int)(w:World):Calls prog 50 #[.int .i64 x,.int .i64 y] w fun e w'=>e=.returned (.int .i64 (Lib.compareInt x y))/\w'=w:=by
 go_enter func50,ntmps50;go_wp2
 all_goals go_ret
 all_goals (refine⟨bF ?_,rfl⟩;unfold Lib.compareInt;repeat' split)
 all_goals omega
theorem Ri(a b:ByteArray)(w:World):Calls prog 111 #[.string a,.string b] w fun e w'=>e=.returned (.int .i64 (Lib.compareBytes a.data.toList b.data.toList))/\w'=w:=by
 cases h1:Op.bytesLess a.toList b.toList with
 | true =>
  rw[Ei h1];go_enter func111,ntmps111;go_wp2;go_ret;exact⟨rfl,rfl⟩
 | false =>
  cases h2:(!a.toList == b.toList) with
  | true =>
   rw[G8 h1 h2];go_enter func111,ntmps111;go_wp2;go_ret;exact⟨rfl,rfl⟩
  | false =>
   rw[G9 h2];go_enter func111,ntmps111;go_wp2;go_ret;exact⟨rfl,rfl⟩
theorem Rj(l:List UInt8)(h:l.length<=1\/l[0]?≠some 48):gZ l=l:=by
 match l with
 | []=>rfl
 | [c]=>rfl
 | c :: d :: r =>
  have:c≠48:=by
   rcases h with h|h
   ·simp at h
   ·simpa using h
  unfold gZ;rw[if_neg this]
theorem aaK(l:List UInt8)(h1:1<l.length)(h:l[0]?=some 48):gZ l=gZ (l.drop 1):=by
 match l with
 | []=>simp at h1
 | [c]=>simp at h1
 | c :: d :: r =>
  have:c=48:=by simpa using h
  conv=>lhs;unfold gZ
  rw[if_pos this];rfl
theorem mk_data(x:ByteArray):(⟨x.data.toList.toArray⟩:ByteArray)=x:=by cases x;simp
theorem Rk(s:ByteArray)(w:World)(hs:s.size<2 ^ 62) :
  Calls prog 112 #[.string s] w fun e w'=>e=.returned (.string ⟨(gZ s.data.toList).toArray⟩)/\w'=w:=by
 obtain⟨R,hR⟩:∃R,R=gZ s.data.toList:=⟨_,rfl⟩;have HR:=ae hR;rw[<-hR];clear hR;go_enter func112,ntmps112;go_wp2
 go_loop [0] (fun v=>∃x:ByteArray,v=.string x/\R=gZ x.data.toList) (fun v=>Kt v)
 case atStart=>exact⟨s,rfl,HR.o⟩
 case round =>
  obtain⟨x,rfl,hr⟩:=hrel;have HX:=ae hr;clear hr
  by_cases h1:1<x.size
  ·have h0:0<x.size:=by omega
   cases hz:((x[0].toNat:Int) == 48) with
   | true =>
    have hc:x[0]=48:=UInt8.toNat_inj.1 (by have:=eq_of_beq hz;have e48:(48:UInt8).toNat=48:=rfl;omega);obtain⟨Y,hY⟩:∃Y:ByteArray,Y=⟨(x.data.toList.drop 1).toArray⟩:=⟨_,rfl⟩;have HY:Hd (R=gZ Y.data.toList):=by
     show R=gZ Y.data.toList;rw[HX.o,aaK _ (by simpa using h1) (by rw[iR x 0 h0,hc]),hY]
    have HL:Hd (Y.size<x.size):=by
     show Y.size<x.size;rw[hY];show(x.data.toList.drop 1).toArray.size<x.size;simp;omega
    have sl:∀wx,(Instr.slice 9 (.string x) (some (.int .i64 1)) none none).run prog wx=.ok (.string Y) wx:=fun wx=>by rw[hY];exact J6 x 1 (by omega) wx
    clear hY hc;go_wp2
    go_round
    case rel=>exact⟨Y,rfl,HY.o⟩
    case measure=>exact HL.o
   | false =>
    have HS:Hd (R=x.data.toList):=by
     show R=x.data.toList;rw[HX.o];refine Rj _ (Or.inr ?_);rw[iR x 0 h0];intro e;have e':=Option.some.inj e;rw[e']at hz;exact absurd hz (by decide)
    go_wp2;go_ret;exact⟨by rw[HS.o,mk_data];rfl,rfl⟩
  ·have HS:Hd (R=x.data.toList):=by
    show R=x.data.toList;rw[HX.o];exact Rj _ (Or.inl (by simp;exact Nat.le_of_not_lt h1))
   go_wp2;go_ret;exact⟨by rw[HS.o,mk_data];rfl,rfl⟩
open Go.RowKit
theorem Eo{w w':World}(h:Below w.heap.size w w'):w.grownBy w' none:=⟨h.os,h.tape,h.output,h.size,fun k hk _=>h.block k hk⟩
open Go.RowKit
structure Sp where
 f1:Int
 f2:Int
 f3:Int
 f4:ByteArray
 f5:ByteArray
 t1:Int
 t2:Int
 t3:Int
 t4:ByteArray
 t5:ByteArray
 o:Bool
def fP(s:Sp):List Value:=[.int .i64 s.f1,.int .i64 s.f2,.int .i64 s.f3,.string s.f4,.string s.f5,.int .i64 s.t1,.int .i64 s.t2,.int .i64 s.t3,.string s.t4,.string s.t5,.bool s.o]
def xA(s:Sp):Vv:=⟨s.f1,s.f2,s.f3,s.f4.data.toList,s.f5.data.toList⟩
def xB(s:Sp):Vv:=⟨s.t1,s.t2,s.t3,s.t4.data.toList,s.t5.data.toList⟩
def ik(s:Sp):Bool:=kP (xA s) && (s.o || kP (xB s))
def jG(s:Sp):Prop:=s.f4.size<=1048576/\s.f5.size<=1048576/\s.t4.size<=1048576/\s.t5.size<=1048576
def EltAt(w:World)(p:Addr)(s:Sp):Prop:=w.cell? p=some (.int .i64 s.f1)/\w.cell? ⟨p.block,p.off+1,none⟩=some (.int .i64 s.f2)/\w.cell? ⟨p.block,p.off+2,none⟩=some (.int .i64 s.f3)/\w.cell? ⟨p.block,p.off+3,none⟩=some (.string s.f4)/\w.cell? ⟨p.block,p.off+4,none⟩=some (.string s.f5)/\w.cell? ⟨p.block,p.off+5,none⟩=some (.int .i64 s.t1)/\w.cell? ⟨p.block,p.off+6,none⟩=some (.int .i64 s.t2)/\w.cell? ⟨p.block,p.off+7,none⟩=some (.int .i64 s.t3)/\w.cell? ⟨p.block,p.off+8,none⟩=some (.string s.t4)/\w.cell? ⟨p.block,p.off+9,none⟩=some (.string s.t5)/\w.cell? ⟨p.block,p.off+10,none⟩=some (.bool s.o)
theorem EltAt.grow{w w':World}{p:Addr}{s:Sp}(h:EltAt w p s)(hg:w.grownBy w' none):EltAt w' p s:=by
 obtain⟨h0,h1,h2,h3,h4,h5,h6,h7,h8,h9,h10⟩:=h;exact⟨hg.cell h0 (by simp),hg.cell h1 (by simp),hg.cell h2 (by simp),hg.cell h3 (by simp),hg.cell h4 (by simp),hg.cell h5 (by simp),hg.cell h6 (by simp),hg.cell h7 (by simp),hg.cell h8 (by simp),hg.cell h9 (by simp),hg.cell h10 (by simp)⟩
def SpAt(w:World)(a:Addr)(L:List Sp):Prop:=∀i (hi:i<L.length),EltAt w (a.add (i*11)) L[i]
theorem SpAt.grow{w w':World}{a:Addr}{L:List Sp}(h:SpAt w a L)(hg:w.grownBy w' none):SpAt w' a L:=fun i hi=>(h i hi).grow hg
theorem jk(a:Addr)(n k:Nat)(hk:0<k):a.add (n+k)=⟨(a.add n).block,(a.add n).off+k,none⟩:=by
 unfold Addr.add;rw[if_neg (by omega)]
 by_cases h:n=0
 ·rw[if_pos h,h];simp
 ·rw[if_neg h];simp[Nat.add_assoc]
theorem aaL{w:World}{a:Addr}{n:Nat}{s:Sp}(h:∀k v,(fP s)[k]?=some v->w.cell? (a.add (n+k))=some v):EltAt w (a.add n) s :=
 ⟨by have:=h 0 _ rfl;simpa using this,by have:=h 1 _ rfl;rw[jk a n 1 (by omega)]at this;exact this,by have:=h 2 _ rfl;rw[jk a n 2 (by omega)]at this;exact this,by have:=h 3 _ rfl;rw[jk a n 3 (by omega)]at this;exact this,by have:=h 4 _ rfl;rw[jk a n 4 (by omega)]at this;exact this,by have:=h 5 _ rfl;rw[jk a n 5 (by omega)]at this;exact this,by have:=h 6 _ rfl;rw[jk a n 6 (by omega)]at this;exact this,by have:=h 7 _ rfl;rw[jk a n 7 (by omega)]at this;exact this,by have:=h 8 _ rfl;rw[jk a n 8 (by omega)]at this;exact this,by have:=h 9 _ rfl;rw[jk a n 9 (by omega)]at this;exact this,by have:=h 10 _ rfl;rw[jk a n 10 (by omega)]at this;exact this⟩
open Go.RowKit
theorem Rl{a:ByteArray}(e:Bool)(d:Bool)(he:a.toList.isEmpty=e)(hd:a.data.toList.all aP=d):eH a.data.toList=(!e && d):=by
 unfold eH;rw[hd];rw[Lib.toList_data]at he;rw[he]
theorem aaM(a b:ByteArray)(w:World)(ha:a.size<2 ^ 62)(hb:b.size<2 ^ 62) :
  Calls prog 83 #[.string a,.string b] w fun e w'=>e=.returned (.int .i64 (dS a.data.toList b.data.toList))/\w'=w:=by
 obtain⟨R,hR⟩:∃R,R=dS a.data.toList b.data.toList:=⟨_,rfl⟩;have HR:=ae hR;rw[<-hR];clear hR;obtain⟨da,nO⟩:=zN (a.data.toList.all aP);obtain⟨db,Kv⟩:=zN (b.data.toList.all aP);have DA:Hd (∀w,Calls prog 109 #[.string a] w fun e w'=>e=.returned (.bool da)/\w'=w):=fun w=>by rw[<-nO];exact J7 a w ha
 have DB:Hd (∀w,Calls prog 109 #[.string b] w fun e w'=>e=.returned (.bool db)/\w'=w):=fun w=>by rw[<-Kv];exact J7 b w hb
 obtain⟨T,hT⟩:∃T,T=Lib.compareBytes a.data.toList b.data.toList:=⟨_,rfl⟩;have OT:Hd (∀w,Calls prog 111 #[.string a,.string b] w fun e w'=>e=.returned (.int .i64 T)/\w'=w):=fun w=>by rw[hT];exact Ri a b w
 obtain⟨X,hX⟩:∃X:ByteArray,X=⟨(gZ a.data.toList).toArray⟩:=⟨_,rfl⟩;obtain⟨Y,hY⟩:∃Y:ByteArray,Y=⟨(gZ b.data.toList).toArray⟩:=⟨_,rfl⟩;have BA:Hd (∀w,Calls prog 112 #[.string a] w fun e w'=>e=.returned (.string X)/\w'=w):=fun w=>by rw[hX];exact Rk a w ha
 have BB:Hd (∀w,Calls prog 112 #[.string b] w fun e w'=>e=.returned (.string Y)/\w'=w):=fun w=>by rw[hY];exact Rk b w hb
 have OX:=ae (Ri X Y);have OL:Hd (∀w,Calls prog 50 #[.int .i64 X.size,.int .i64 Y.size] w fun e w'=>e=.returned (.int .i64 (Lib.compareInt X.size Y.size))/\w'=w):=fun w=>vF _ _ w
 have HT:=ae hT;have gQ:Hd (X.data.toList=gZ a.data.toList/\Y.data.toList=gZ b.data.toList/\(X.size:Int)=(gZ a.data.toList).length/\(Y.size:Int)=(gZ b.data.toList).length):=by
  rw[hX,hY];refine⟨rfl,rfl,?_,?_⟩
  ·show(((gZ a.data.toList).toArray.size:Nat):Int)=_;simp
  ·show(((gZ b.data.toList).toArray.size:Nat):Int)=_;simp
 have yP:Hd (a.data.toList.all aP=da/\b.data.toList.all aP=db):=⟨nO,Kv⟩;clear nO Kv hT hX hY ha hb;have key:∀ea eb,a.toList.isEmpty=ea->b.toList.isEmpty=eb->Hd (eH a.data.toList=(!ea && da)/\eH b.data.toList=(!eb && db)):=fun ea eb h1 h2=>⟨Rl ea da h1 yP.o.1,Rl eb db h2 yP.o.2⟩
 cases hea:a.toList.isEmpty<;>cases heb:b.toList.isEmpty<;>cases da<;>cases db
 all_goals
  have HK:=key _ _ hea heb;clear key
  first
  | (have HZ:Hd (R=-1):=by show R=-1;rw[HR.o];exact Qz HK.o.1 HK.o.2
     go_enter func83,ntmps83;go_wp2_with (first|(go_at_call_of 109 a;refine(DA.o _).mono ?_;rintro e w' ⟨rfl,rfl⟩)|(go_at_call_of 109 b;refine(DB.o _).mono ?_;rintro e w' ⟨rfl,rfl⟩));go_ret;exact⟨bF HZ.o.symm,rfl⟩)
  | (have HZ:Hd (R=1):=by show R=1;rw[HR.o];exact QA HK.o.1 HK.o.2
     go_enter func83,ntmps83;go_wp2_with (first|(go_at_call_of 109 a;refine(DA.o _).mono ?_;rintro e w' ⟨rfl,rfl⟩)|(go_at_call_of 109 b;refine(DB.o _).mono ?_;rintro e w' ⟨rfl,rfl⟩));go_ret;exact⟨bF HZ.o.symm,rfl⟩)
  | (have HZ:Hd (R=T):=by show R=T;rw[HR.o,HT.o];exact QB HK.o.1 HK.o.2
     go_enter func83,ntmps83;go_wp2_with (first|(go_at_call_of 109 a;refine(DA.o _).mono ?_;rintro e w' ⟨rfl,rfl⟩)|(go_at_call_of 109 b;refine(DB.o _).mono ?_;rintro e w' ⟨rfl,rfl⟩)|(go_at_call 111;refine(OT.o _).mono ?_;rintro e w' ⟨rfl,rfl⟩));go_ret;exact⟨bF HZ.o.symm,rfl⟩)
  | skip
 cases hl:((X.size:Int) == (Y.size:Int)) with
 | true =>
  have HZ:Hd (R=Lib.compareBytes X.data.toList Y.data.toList):=by
   show R=_;have h:=gQ.o;rw[HR.o,QI HK.o.1 HK.o.2,<-h.2.2.1,<-h.2.2.2,if_pos (eq_of_beq hl),h.1,h.2.1]
  go_enter func83,ntmps83;go_wp2_with (first|(go_at_call_of 109 a;refine(DA.o _).mono ?_;rintro e w' ⟨rfl,rfl⟩)|(go_at_call_of 109 b;refine(DB.o _).mono ?_;rintro e w' ⟨rfl,rfl⟩)|(go_at_call_of 112 a;refine(BA.o _).mono ?_;rintro e w' ⟨rfl,rfl⟩)|(go_at_call_of 112 b;refine(BB.o _).mono ?_;rintro e w' ⟨rfl,rfl⟩)|(go_at_call 111;refine(OX.o _).mono ?_;rintro e w' ⟨rfl,rfl⟩)|(go_at_call 50;refine(OL.o _).mono ?_;rintro e w' ⟨rfl,rfl⟩));go_ret;exact⟨bF HZ.o.symm,rfl⟩
 | false =>
  have HZ:Hd (R=Lib.compareInt X.size Y.size):=by
   show R=_;have h:=gQ.o;rw[HR.o,QI HK.o.1 HK.o.2,<-h.2.2.1,<-h.2.2.2,if_neg (by simpa using hl)]
  go_enter func83,ntmps83;go_wp2_with (first|(go_at_call_of 109 a;refine(DA.o _).mono ?_;rintro e w' ⟨rfl,rfl⟩)|(go_at_call_of 109 b;refine(DB.o _).mono ?_;rintro e w' ⟨rfl,rfl⟩)|(go_at_call_of 112 a;refine(BA.o _).mono ?_;rintro e w' ⟨rfl,rfl⟩)|(go_at_call_of 112 b;refine(BB.o _).mono ?_;rintro e w' ⟨rfl,rfl⟩)|(go_at_call 111;refine(OX.o _).mono ?_;rintro e w' ⟨rfl,rfl⟩)|(go_at_call 50;refine(OL.o _).mono ?_;rintro e w' ⟨rfl,rfl⟩));go_ret;exact⟨bF HZ.o.symm,rfl⟩
theorem aaN(a b:ByteArray)(w:World)(ha:a.size<=1048576)(hb:b.size<=1048576) :
  Calls prog 51 #[.string a,.string b] w fun e w'=>e=.returned (.int .i64 (dm dS (aV a.data.toList) (aV b.data.toList)))/\Below w.heap.size w w':=by
 have SA:=fun w=>QY a w ha
 have SB:=fun w=>QY b w hb
 have PA:∀p∈aV a.data.toList,p.length<2 ^ 62:=fun p hp=>by have:=Ee _ p hp;simp at this;omega
 have PB:∀p∈aV b.data.toList,p.length<2 ^ 62:=fun p hp=>by have:=Ee _ p hp;simp at this;omega
 have LA:(aV a.data.toList).length<2 ^ 62:=by have:=QZ a.data.toList;simp at this;omega
 generalize aV a.data.toList=L at SA PA LA ⊢;generalize aV b.data.toList=M at SB PB ⊢;obtain⟨R,hR⟩:∃R,R=dm dS L M:=⟨_,rfl⟩;rw[<-hR];have HR:=ae hR;have OP:Hd (∀i,(h1:i<L.length)->(h2:i<M.length)->∀w,Calls prog 83 #[.string ⟨L[i].toArray⟩,.string ⟨M[i].toArray⟩] w fun e w'=>e=.returned (.int .i64 (dS L[i] M[i]))/\w'=w):=by
  intro i h1 h2 w;have:=aaM ⟨L[i].toArray⟩ ⟨M[i].toArray⟩ w (by have:=PA L[i] (List.getElem_mem h1);show L[i].toArray.size < _;simpa using this) (by have:=PB M[i] (List.getElem_mem h2);show M[i].toArray.size < _;simpa using this);exact this
 have OR:Hd (∀w,Calls prog 50 #[.int .i64 L.length,.int .i64 M.length] w fun e w'=>e=.returned (.int .i64 (Lib.compareInt L.length M.length))/\w'=w):=fun w=>vF _ _ w
 have HLM:=ae trivial;clear hR PA PB ha hb;go_enter func51,ntmps51;go_wp2_with (go_at_call 82;refine(SA _).mono ?_);rintro e w1 ⟨g,cap,rfl,hg1,hg2,hc,hb1⟩;have HC:=ae hc;clear hc SA;go_wp2_with (go_at_call 82;refine(SB _).mono ?_);rintro e w2 ⟨g',cap',rfl,hg1',aaO,hc,hb2⟩;have Rn:=ae hc;have HC2:Hd (∀j,(hj:j<L.length)->w2.cell? ⟨g,j,none⟩=some (.string ⟨L[j].toArray⟩)):=fun j hj=>(hb2.cell (p:=⟨g,j,none⟩) hg2).trans (HC.o j hj)
 have HB:=ae (hb1.trans (hb2.mono hb1.size));clear hc HC hb1 hb2 hg1 hg2 hg1' aaO SB;go_wp2;go_loopw [7] (fun vi wr=>∃k:Nat,k<=L.length/\k<=M.length/\vi=.int .i64 k/\R=dm dS (L.drop k) (M.drop k)/\wr.heap=w2.heap/\Below w.heap.size w wr) (fun vi _=>L.length-(intOf vi).toNat)
 case atStart=>exact⟨0,Nat.zero_le _,Nat.zero_le _,rfl,HR.o,rfl,HB.o⟩
 case round =>
  obtain⟨k,hk1,hk2,rfl,hr,hh,hbr⟩:=hrel;have HH:=ae hh;have He:=ae hbr;clear hh hbr;have nP:=ae hr;clear hr
  by_cases h1:k<L.length
  ·by_cases h2:k<M.length
   ·have c1:=HC2.o k h1;have c2:=Rn.o k h2;obtain⟨X,hX⟩:∃X:ByteArray,X=⟨L[k].toArray⟩:=⟨_,rfl⟩;obtain⟨Y,hY⟩:∃Y:ByteArray,Y=⟨M[k].toArray⟩:=⟨_,rfl⟩;obtain⟨O,hO⟩:∃O,O=dS L[k] M[k]:=⟨_,rfl⟩;have C0:Hd (∀w,Calls prog 83 #[.string X,.string Y] w fun e w'=>e=.returned (.int .i64 O)/\w'=w):=fun w=>by rw[hX,hY,hO];exact OP.o k h1 h2 w
    have HS:Hd (R=if O=0 then dm dS (L.drop (k+1)) (M.drop (k+1)) else O):=by
     show R=_;rw[nP.o,List.drop_eq_getElem_cons h1,List.drop_eq_getElem_cons h2,hO];rfl
    have c1:wr.cell? ⟨g,k,none⟩=some (.string X):=by rw[hX];exact(World.cell?_of_block (w':=wr) (a:=⟨g,k,none⟩) (by rw[HH.o])).trans (HC2.o k h1)
    have c2:wr.cell? ⟨g',k,none⟩=some (.string Y):=by rw[hY];exact(World.cell?_of_block (w':=wr) (a:=⟨g',k,none⟩) (by rw[HH.o])).trans (Rn.o k h2)
    have i1:(k:Int)<(L.length:Int):=by omega
    have i2:(k:Int)<(M.length:Int):=by omega
    clear hX hY hO;go_wp2;go_quiet (first|(go_at_call 83;exact Calls.quiet_of_same (C0.o _)))
    cases hz:(O == 0) with
    | true =>
     have HZ:Hd (R=dm dS (L.drop (k+1)) (M.drop (k+1))):=by show R=_;rw[HS.o,if_pos (by simpa using hz)]
     go_wp2;go_roundw
     case rel=>exact⟨k+1,by omega,by omega,by go_num,HZ.o,HH.o,below_drewN He.o _⟩
     case measure=>simp[intOf];omega
    | false =>
     have HZ:Hd (R=O):=by show R=O;rw[HS.o,if_neg (by simpa using hz)]
     go_wp2;go_ret;exact⟨bF HZ.o.symm,below_drewN He.o _⟩
   ·have HZ:Hd (R=Lib.compareInt L.length M.length):=by
     show R=_;rw[HR.o];exact QJ L M k (by omega) hk1 hk2 (by rw[<-HR.o];exact nP.o)
    clear hk1 hk2;go_wp2_with (go_at_call 50;refine(OR.o _).mono ?_;rintro e w' ⟨rfl,rfl⟩);go_ret;exact⟨bF HZ.o.symm,He.o⟩
  ·have HZ:Hd (R=Lib.compareInt L.length M.length):=by
    show R=_;rw[HR.o];exact QJ L M k (by omega) hk1 hk2 (by rw[<-HR.o];exact nP.o)
   clear hk1 hk2;go_wp2_with (go_at_call 50;refine(OR.o _).mono ?_;rintro e w' ⟨rfl,rfl⟩);go_ret;exact⟨bF HZ.o.symm,He.o⟩
open Go.RowKit
theorem yQ(a1 a2 a3 b1 b2 b3:Int)(a4 a5 b4 b5:ByteArray)(w:World)(hs:a4.size<=1048576)(hs':b4.size<=1048576) :
  Calls prog 25 #[.agg #[.int .i64 a1,.int .i64 a2,.int .i64 a3,.string a4,.string a5],.agg #[.int .i64 b1,.int .i64 b2,.int .i64 b3,.string b4,.string b5]] w fun e w'=>e=.returned (.int .i64 (aB ⟨a1,a2,a3,a4.data.toList⟩ ⟨b1,b2,b3,b4.data.toList⟩))/\Below w.heap.size w w':=by
 obtain⟨R,hR⟩:∃R,R=aB ⟨a1,a2,a3,a4.data.toList⟩ ⟨b1,b2,b3,b4.data.toList⟩:=⟨_,rfl⟩;have HR:=ae hR;obtain⟨p,hp⟩:∃p,p=dm dS (aV a4.data.toList) (aV b4.data.toList):=⟨_,rfl⟩;have HP:=ae hp;have OP:Hd (∀w,Calls prog 51 #[.string a4,.string b4] w fun e w'=>e=.returned (.int .i64 p)/\Below w.heap.size w w'):=fun w=>by rw[hp];exact aaN a4 b4 w hs hs'
 have B2:Hd (∀o1 o2,Below w.heap.size w ((w.alloc o1).alloc o2)):=fun o1 o2=>jE (ak (ak (ai w none) _) _)
 rw[<-hR];clear hR hp hs hs'
 cases h1:(a1 == b1) with
 | false =>
  have HZ:Hd (R=Lib.compareInt a1 b1):=by
   show R=_;rw[HR.o,qH];simp only;rw[if_neg (fun e=>(by simpa using h1:¬a1=b1) (oI.1 e))]
  go_enter func25,ntmps25;go_wp2_with (first|(go_at_call 50;refine(vF _ _ _).mono ?_;rintro e w' ⟨rfl,rfl⟩)|(go_at_call 51;refine(OP.o _).mono ?_;rintro e w3 ⟨rfl,hb3⟩));go_ret;exact⟨bF HZ.o.symm,B2.o _ _⟩
 | true =>
  cases h2:(a2 == b2) with
  | false =>
   have HZ:Hd (R=Lib.compareInt a2 b2):=by
    show R=_;rw[HR.o,qH];simp only;rw[if_pos (oI.2 (eq_of_beq h1)),if_neg (fun e=>(by simpa using h2:¬a2=b2) (oI.1 e))]
   go_enter func25,ntmps25;go_wp2_with (first|(go_at_call 50;refine(vF _ _ _).mono ?_;rintro e w' ⟨rfl,rfl⟩)|(go_at_call 51;refine(OP.o _).mono ?_;rintro e w3 ⟨rfl,hb3⟩));go_ret;exact⟨bF HZ.o.symm,B2.o _ _⟩
  | true =>
   cases h3:(a3 == b3) with
   | false =>
    have HZ:Hd (R=Lib.compareInt a3 b3):=by
     show R=_;rw[HR.o,qH];simp only;rw[if_pos (oI.2 (eq_of_beq h1)),if_pos (oI.2 (eq_of_beq h2)),if_neg (fun e=>(by simpa using h3:¬a3=b3) (oI.1 e))]
    go_enter func25,ntmps25;go_wp2_with (first|(go_at_call 50;refine(vF _ _ _).mono ?_;rintro e w' ⟨rfl,rfl⟩)|(go_at_call 51;refine(OP.o _).mono ?_;rintro e w3 ⟨rfl,hb3⟩));go_ret;exact⟨bF HZ.o.symm,B2.o _ _⟩
   | true =>
    have HQ:Hd (R=lg a4.data.toList b4.data.toList):=by
     show R=_;rw[HR.o,qH];simp only;rw[if_pos (oI.2 (eq_of_beq h1)),if_pos (oI.2 (eq_of_beq h2)),if_pos (oI.2 (eq_of_beq h3))]
    cases he:(a4.toList == b4.toList) with
    | true =>
     have HZ:Hd (R=0):=by
      show R=0;have e:a4.data.toList=b4.data.toList:=by rw[<-Lib.toList_data,<-Lib.toList_data];exact eq_of_beq he
      rw[HQ.o,e];exact GI.self _
     go_enter func25,ntmps25;go_wp2_with (first|(go_at_call 50;refine(vF _ _ _).mono ?_;rintro e w' ⟨rfl,rfl⟩)|(go_at_call 51;refine(OP.o _).mono ?_;rintro e w3 ⟨rfl,hb3⟩));go_ret;exact⟨bF HZ.o.symm,B2.o _ _⟩
    | false =>
     by_cases ha:a4.size=0
     ·have c1:=emp_t ha;have HZ:Hd (R=1):=by
       show R=1;have e:a4.data.toList=[]:=List.length_eq_zero_iff.1 (by simpa using ha);have hb:b4.data.toList≠[]:=by
        intro hb;rw[Lib.toList_data,Lib.toList_data,e,hb]at he;exact absurd he (by decide)
       rw[HQ.o,JY _ _ (Or.inl e),e];exact D8 (by have:=List.length_pos_iff.2 hb;simp only[List.length_nil];omega)
      clear ha;go_enter func25,ntmps25;go_wp2_with (first|(go_at_call 50;refine(vF _ _ _).mono ?_;rintro e w' ⟨rfl,rfl⟩)|(go_at_call 51;refine(OP.o _).mono ?_;rintro e w3 ⟨rfl,hb3⟩));go_ret;exact⟨bF HZ.o.symm,B2.o _ _⟩
     ·have c1:=emp_f ha
      by_cases hb:b4.size=0
      ·have c2:=emp_t hb;have HZ:Hd (R=-1):=by
        show R=-1;have e:b4.data.toList=[]:=List.length_eq_zero_iff.1 (by simpa using hb);have ha':a4.data.toList≠[]:=fun h=>ha (by show a4.data.size=0;rw[<-Array.length_toList,h];rfl)
        rw[HQ.o,JY _ _ (Or.inr e),e];exact Au (by have:=List.length_pos_iff.2 ha';simp only[List.length_nil];omega)
       clear ha hb;go_enter func25,ntmps25;go_wp2_with (first|(go_at_call 50;refine(vF _ _ _).mono ?_;rintro e w' ⟨rfl,rfl⟩)|(go_at_call 51;refine(OP.o _).mono ?_;rintro e w3 ⟨rfl,hb3⟩));go_ret;exact⟨bF HZ.o.symm,B2.o _ _⟩
      ·have c2:=emp_f hb;have HZ:Hd (R=p):=by
        show R=p;rw[HQ.o,HP.o];exact QF _ _ (fun h=>ha (by show a4.data.size=0;rw[<-Array.length_toList,h];rfl)) (fun h=>hb (by show b4.data.size=0;rw[<-Array.length_toList,h];rfl))
       clear ha hb;go_enter func25,ntmps25;go_wp2_with (first|(go_at_call 50;refine(vF _ _ _).mono ?_;rintro e w' ⟨rfl,rfl⟩)|(go_at_call 51;refine(OP.o _).mono ?_;rintro e w3 ⟨rfl,hb3⟩));go_ret;exact⟨bF HZ.o.symm,(B2.o _ _).trans (hb3.mono (B2.o _ _).size)⟩
open Go.RowKit
def vG(s:Sp):V:=⟨s.f1,s.f2,s.f3,s.f4.data.toList⟩
def xC(s:Sp):V:=⟨s.t1,s.t2,s.t3,s.t4.data.toList⟩
def vH(s:Sp)(v:V):Bool:=decide (aB (vG s) v<=0) && (s.o || decide (aB v (xC s)<0))
def eU(L:List Sp)(v:V):Bool:=L.any fun s=>vH s v
end Go.Proofs.YtiinliaoojfjaaaGreatDoor
