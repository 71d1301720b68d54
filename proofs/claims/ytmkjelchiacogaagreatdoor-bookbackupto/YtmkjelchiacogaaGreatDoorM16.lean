import Derived.Test.YtmkjelchiacogaaGreatDoorM15
import Derived.WalkKit
import Derived.WalkSpells
import Derived.WalkLawsBesides
import Derived.Deep.QuietTactic
import Derived.BigQuiet
import Derived.Below
import Derived.Shelf.Strings.Prefix
import Derived.Test.YtmkjelchiacogaaGreatDoorProg
import Derived.Test.YtmkjelchiacogaaGreatDoorM06
set_option linter.unusedVariables false
set_option linter.unusedSimpArgs false
set_option maxRecDepth 100000
set_option maxHeartbeats 6400000
open Go.Proofs.Tryz
namespace Go.Proofs.YtmkjelchiacogaaGreatDoor
open Go.RowKit
def rE(c:UInt8):Bool:=decide (97<=c.toNat/\c.toNat<=122)
def nU(c:UInt8):Bool:=rE c || aC c || decide (c.toNat=45) || decide (c.toNat=95)
def DJ(s:ByteArray):Prop:=1<=s.size/\s.size<=30/\(∀h:0<s.size,rE s[0]=true)/\∀j,(hj:j<s.size)->1<=j->nU s[j]=true
open Classical in
noncomputable def nameB(s:ByteArray):Bool:=decide (DJ s)
theorem UZ{s:ByteArray}(h:DJ s):nameB s=true:=by simp[nameB,h]
theorem sW{s:ByteArray}(h:¬DJ s):nameB s=false:=by simp[nameB,h]
theorem DK(c:UInt8)(w:World):Calls prog 93 #[.int .u8 (c.toNat:Int)] w fun e w'=>e=.returned (.bool (rE c))/\w'=w:=by
 go_enter func93,ntmps93;go_wp2
 all_goals go_ret
 all_goals (refine⟨bn ?_,rfl⟩;rw[Bool.eq_iff_iff];simp_all [rE]<;>omega)
theorem H7(c:UInt8)(w:World):Calls prog 94 #[.int .u8 (c.toNat:Int)] w fun e w'=>e=.returned (.bool (nU c))/\w'=w:=by
 go_enter func94,ntmps94;go_wp2_with (go_at_call 93;refine(DK _ _).mono ?_;rintro e w' ⟨rfl,rfl⟩)
 all_goals go_ret
 all_goals (refine⟨bn ?_,rfl⟩;rw[Bool.eq_iff_iff];simp_all [nU,aC]<;>omega)
theorem yF(c:UInt8)(w:World):Calls prog 67 #[.int .u8 (c.toNat:Int)] w fun e w'=>e=.returned (.bool (rE c))/\w'=w:=by
 go_enter func67,ntmps67;go_wp2
 all_goals go_ret
 all_goals (refine⟨bn ?_,rfl⟩;rw[Bool.eq_iff_iff];simp_all [rE]<;>omega)
theorem name_any(s:ByteArray)(w:World)(hs:s.size<2 ^ 62) :
  Calls prog 54 #[.string s] w fun e w'=>e=.returned (.bool (nameB s))/\w'=w:=by
 obtain⟨R,hR⟩:∃R,R=nameB s:=⟨_,rfl⟩;have HR:Hd (R=nameB s):=hR;rw[<-hR];clear hR
 by_cases h0:s.size=0
 ·have HN:Hd (R=false):=HR.o.trans (sW fun h=>absurd h.1 (by omega));go_enter func54,ntmps54;go_wp2;go_ret;exact⟨bn HN.o.symm,rfl⟩
 by_cases h30:30<s.size
 ·have HN:Hd (R=false):=HR.o.trans (sW fun h=>absurd h.2.1 (by omega));have h1:¬s.size<1:=by omega
  go_enter func54,ntmps54;go_wp2;go_ret;exact⟨bn HN.o.symm,rfl⟩
 have hpos:0<s.size:=by omega
 have g1:((s.size:Int) == 0)=false:=by rw[beq_eq_false_iff_ne];omega
 have g2:decide (30<(s.size:Int))=false:=by rw[decide_eq_false_iff_not];omega
 have g3:decide ((s.size:Int)<1)=false:=by rw[decide_eq_false_iff_not];omega
 cases hl:rE s[0] with
 | false =>
  have HN:Hd (R=false):=HR.o.trans (sW fun h=>by have:=h.2.2.1 hpos;rw[hl]at this;cases this);go_enter func54,ntmps54;go_wp2_with (first|(go_at_call 93;refine(DK _ _).mono ?_;rintro e w' ⟨rfl,rfl⟩)|(go_at_call 94;refine(H7 _ _).mono ?_;rintro e w' ⟨rfl,rfl⟩));go_ret;exact⟨bn HN.o.symm,rfl⟩
 | true =>
  go_enter func54,ntmps54;go_wp2_with (first|(go_at_call 93;refine(DK _ _).mono ?_;rintro e w' ⟨rfl,rfl⟩)|(go_at_call 94;refine(H7 _ _).mono ?_;rintro e w' ⟨rfl,rfl⟩))
  go_loop [3] (fun i=>∃k:Nat,1<=k/\k<=s.size/\i=.int .i64 k/\∀j,(hj:j<s.size)->j<k->1<=j->nU s[j]=true) (fun i=>s.size-(intOf i).toNat)
  case atStart=>exact⟨1,Nat.le_refl _,by omega,rfl,fun j hj h h'=>absurd h (by omega)⟩
  case round =>
   obtain⟨k,hk1,hk,rfl,hp⟩:=hrel;have HP:Hd (∀j,(hj:j<s.size)->j<k->1<=j->nU s[j]=true):=hp;clear hp;clear g1 g2 g3
   by_cases hlt:k<s.size
   ·cases hd:nU s[k] with
    | true =>
     go_wp2_with (first|(go_at_call 93;refine(DK _ _).mono ?_;rintro e w' ⟨rfl,rfl⟩)|(go_at_call 94;refine(H7 _ _).mono ?_;rintro e w' ⟨rfl,rfl⟩))
     all_goals go_round
     case rel =>
      refine⟨k+1,by omega,by omega,by go_num,fun j hj hjk hj1=>?_⟩
      by_cases hjk':j<k
      ·exact HP.o j hj hjk' hj1
      ·have e:j=k:=by omega
       subst e;exact hd
     case measure=>simp[intOf];omega
    | false =>
     have HN:Hd (R=false):=HR.o.trans (sW fun h=>by have:=h.2.2.2 k hlt hk1;rw[hd]at this;cases this);go_wp2_with (first|(go_at_call 93;refine(DK _ _).mono ?_;rintro e w' ⟨rfl,rfl⟩)|(go_at_call 94;refine(H7 _ _).mono ?_;rintro e w' ⟨rfl,rfl⟩));go_ret;exact⟨bn HN.o.symm,rfl⟩
   ·have HN:Hd (R=true):=HR.o.trans (UZ ⟨by omega,by omega,fun _=>hl,fun j hj h=>HP.o j hj (by omega) h⟩);clear hk;go_wp2;go_ret;exact⟨bn HN.o.symm,rfl⟩
theorem U0(s:ByteArray)(w:World)(hs:s.size<2 ^ 62) :
  Calls prog 35 #[.string s] w fun e w'=>e=.returned (.bool (nameB s))/\w'=w:=by
 obtain⟨R,hR⟩:∃R,R=nameB s:=⟨_,rfl⟩;have HR:Hd (R=nameB s):=hR;rw[<-hR];clear hR
 by_cases h0:s.size=0
 ·have HN:Hd (R=false):=HR.o.trans (sW fun h=>absurd h.1 (by omega));go_enter func35,ntmps35;go_wp2;go_ret;exact⟨bn HN.o.symm,rfl⟩
 by_cases h30:30<s.size
 ·have HN:Hd (R=false):=HR.o.trans (sW fun h=>absurd h.2.1 (by omega));have h1:¬s.size<1:=by omega
  go_enter func35,ntmps35;go_wp2;go_ret;exact⟨bn HN.o.symm,rfl⟩
 have hpos:0<s.size:=by omega
 have g1:((s.size:Int) == 0)=false:=by rw[beq_eq_false_iff_ne];omega
 have g2:decide (30<(s.size:Int))=false:=by rw[decide_eq_false_iff_not];omega
 have g3:decide ((s.size:Int)<1)=false:=by rw[decide_eq_false_iff_not];omega
 cases hl:rE s[0] with
 | false =>
  have HN:Hd (R=false):=HR.o.trans (sW fun h=>by have:=h.2.2.1 hpos;rw[hl]at this;cases this);go_enter func35,ntmps35;go_wp2_with (first|(go_at_call 67;refine(yF _ _).mono ?_;rintro e w' ⟨rfl,rfl⟩)|(go_at_call 68;refine(oW _ _).mono ?_;rintro e w' ⟨rfl,rfl⟩));go_ret;exact⟨bn HN.o.symm,rfl⟩
 | true =>
  go_enter func35,ntmps35;go_wp2_with (first|(go_at_call 67;refine(yF _ _).mono ?_;rintro e w' ⟨rfl,rfl⟩)|(go_at_call 68;refine(oW _ _).mono ?_;rintro e w' ⟨rfl,rfl⟩))
  go_loop [3] (fun i=>∃k:Nat,1<=k/\k<=s.size/\i=.int .i64 k/\∀j,(hj:j<s.size)->j<k->1<=j->nU s[j]=true) (fun i=>s.size-(intOf i).toNat)
  case atStart=>exact⟨1,Nat.le_refl _,by omega,rfl,fun j hj h h'=>absurd h (by omega)⟩
  case round =>
   obtain⟨k,hk1,hk,rfl,hp⟩:=hrel;have HP:Hd (∀j,(hj:j<s.size)->j<k->1<=j->nU s[j]=true):=hp;clear hp;clear g1 g2 g3
   by_cases hlt:k<s.size
   ·cases hd:nU s[k] with
    | true =>
     rcases Bool.eq_false_or_eq_true (rE s[k]) with a1|a1
     ·go_wp2_with (first|(go_at_call 67;refine(yF _ _).mono ?_;rintro e w' ⟨rfl,rfl⟩)|(go_at_call 68;refine(oW _ _).mono ?_;rintro e w' ⟨rfl,rfl⟩))
      go_round
      case rel =>
       refine⟨k+1,by omega,by omega,by go_num,fun j hj hjk hj1=>?_⟩
       by_cases hjk':j<k
       ·exact HP.o j hj hjk' hj1
       ·have e:j=k:=by omega
        subst e;exact hd
      case measure=>simp[intOf];omega
     rcases Bool.eq_false_or_eq_true (aC s[k]) with a2|a2
     ·go_wp2_with (first|(go_at_call 67;refine(yF _ _).mono ?_;rintro e w' ⟨rfl,rfl⟩)|(go_at_call 68;refine(oW _ _).mono ?_;rintro e w' ⟨rfl,rfl⟩))
      go_round
      case rel =>
       refine⟨k+1,by omega,by omega,by go_num,fun j hj hjk hj1=>?_⟩
       by_cases hjk':j<k
       ·exact HP.o j hj hjk' hj1
       ·have e:j=k:=by omega
        subst e;exact hd
      case measure=>simp[intOf];omega
     by_cases a3:s[k].toNat=45
     ·have b3:((s[k].toNat:Int) != 45)=false:=by rw[a3];rfl
      have b5:((s[k].toNat:Int) != 95)=true:=by rw[a3];rfl
      clear a3;go_wp2_with (first|(go_at_call 67;refine(yF _ _).mono ?_;rintro e w' ⟨rfl,rfl⟩)|(go_at_call 68;refine(oW _ _).mono ?_;rintro e w' ⟨rfl,rfl⟩))
      go_round
      case rel =>
       refine⟨k+1,by omega,by omega,by go_num,fun j hj hjk hj1=>?_⟩
       by_cases hjk':j<k
       ·exact HP.o j hj hjk' hj1
       ·have e:j=k:=by omega
        subst e;exact hd
      case measure=>simp[intOf];omega
     ·have b3:((s[k].toNat:Int) != 45)=true:=by rw[bne_iff_ne];omega
      have b4:((s[k].toNat:Int) != 95)=false:=by unfold nU at hd;simp[a1,a2,a3]at hd;rw[hd];rfl
      clear a3;go_wp2_with (first|(go_at_call 67;refine(yF _ _).mono ?_;rintro e w' ⟨rfl,rfl⟩)|(go_at_call 68;refine(oW _ _).mono ?_;rintro e w' ⟨rfl,rfl⟩))
      go_round
      case rel =>
       refine⟨k+1,by omega,by omega,by go_num,fun j hj hjk hj1=>?_⟩
       by_cases hjk':j<k
       ·exact HP.o j hj hjk' hj1
       ·have e:j=k:=by omega
        subst e;exact hd
      case measure=>simp[intOf];omega
    | false =>
     have HN:Hd (R=false):=HR.o.trans (sW fun h=>by have:=h.2.2.2 k hlt hk1;rw[hd]at this;cases this);obtain⟨a1,a2,a3,a4⟩:rE s[k]=false/\aC s[k]=false/\¬s[k].toNat=45/\¬s[k].toNat=95:=by
      unfold nU at hd;simpa [and_assoc] using hd
     have b3:((s[k].toNat:Int) != 45)=true:=by rw[bne_iff_ne];omega
     have b4:((s[k].toNat:Int) != 95)=true:=by rw[bne_iff_ne];omega
     clear a3 a4;go_wp2_with (first|(go_at_call 67;refine(yF _ _).mono ?_;rintro e w' ⟨rfl,rfl⟩)|(go_at_call 68;refine(oW _ _).mono ?_;rintro e w' ⟨rfl,rfl⟩));go_ret;exact⟨bn HN.o.symm,rfl⟩
   ·have HN:Hd (R=true):=HR.o.trans (UZ ⟨by omega,by omega,fun _=>hl,fun j hj h=>HP.o j hj (by omega) h⟩);clear hk;go_wp2;go_ret;exact⟨bn HN.o.symm,rfl⟩
end Go.Proofs.YtmkjelchiacogaaGreatDoor
namespace Go.Proofs
open Go.Shelf
def Tryz.lays99_ren:Go.Shelf.Ren:=⟨fun|99=>250|206=>178|n=>n,fun|22=>263|24=>169|25=>170|27=>66|28=>88|31=>41|32=>172|33=>118|35=>219|37=>69|40=>312|41=>127|42=>220|43=>218|46=>176|47=>175|48=>132|49=>351|51=>235|52=>234|53=>237|54=>236|55=>258|67=>125|69=>75|70=>68|71=>70|72=>71|73=>112|74=>49|75=>50|76=>72|77=>73|78=>161|79=>283|80=>77|81=>140|83=>74|84=>178|85=>318|86=>319|94=>165|100=>179|101=>56|102=>57|103=>171|104=>78|105=>284|106=>285|108=>328|111=>141|112=>221|114=>270|119=>313|126=>303|127=>126|128=>304|131=>59|135=>243|137=>314|138=>315|139=>316|143=>330|144=>331|145=>332|164=>143|165=>177|166=>279|167=>317|168=>320|169=>321|170=>322|171=>238|172=>239|173=>240|174=>241|175=>324|176=>325|182=>228|183=>229|188=>274|189=>275|190=>276|191=>277|192=>278|209=>326|210=>327|211=>271|212=>272|213=>273|214=>329|218=>264|219=>265|220=>266|222=>268|224=>300|225=>301|228=>297|229=>298|231=>311|232=>309|233=>310|238=>333|239=>334|240=>335|241=>336|242=>337|243=>339|244=>151|245=>340|246=>341|247=>342|248=>343|249=>344|n=>n,fun|1=>7|3=>10|4=>11|15=>12|16=>13|17=>6|18=>8|19=>9|n=>n⟩
theorem Tryz.lays99:Go.Proofs.Lays.n99 prog Tryz.lays99_ren:={
 mixed:=by kernel_rfl
 f99:=func250.trans (congrArg some (by kernel_rfl))
 f206:=func178.trans (congrArg some (by kernel_rfl))
 t3:=underlying3
 a3:=isAgg3
 z3:=sizeOf3
 v3:=zeroValue3
 t4:=underlying4
 a4:=isAgg4
 z4:=sizeOf4
 v4:=zeroValue4
 t9:=underlying9
 a9:=isAgg9
 z9:=sizeOf9
 v9:=zeroValue9 }
end Go.Proofs
namespace Go.Proofs.YtmkjelchiacogaaGreatDoor
open Go.RowKit
theorem U4(c:UInt8)(w:World):Calls prog 251 #[.int .u8 (c.toNat:Int)] w fun e w'=>e=.returned (.bool (aS c))/\w'=w:=by
 go_enter func251,ntmps251;go_wp2_with (go_at_call 237;refine(xJ _ _).mono ?_;rintro e w' ⟨rfl,rfl⟩)
 all_goals go_ret
 all_goals (refine⟨bn ?_,rfl⟩;rw[Bool.eq_iff_iff];unfold aS;simp_all;try omega)
def RS(b:Nat)(s:ByteArray)(i:Nat)(w:World):Prop:=∃t,w.heap[b]?=some (.cells #[.string s,.int .i64 (i:Int)] t (0,0))
theorem RS.c0{b:Nat}{s:ByteArray}{i:Nat}{w:World}(h:RS b s i w):w.cell? ⟨b,0,none⟩=some (.string s):=by obtain⟨t,h⟩:=h;rw[ae h];rfl
theorem RS.c1{b:Nat}{s:ByteArray}{i:Nat}{w:World}(h:RS b s i w):w.cell? ⟨b,1,none⟩=some (.int .i64 (i:Int)):=by obtain⟨t,h⟩:=h;rw[ae h];rfl
theorem RS.f1{b:Nat}{s:ByteArray}{i:Nat}{w:World}(h:RS b s i w):w.frozen? ⟨b,1,none⟩=false:=by obtain⟨t,h⟩:=h;exact Lib.frozen_of_heap h 1
theorem RS.drew{b:Nat}{s:ByteArray}{i:Nat}{w:World}(h:RS b s i w)(n:Nat):RS b s i (w.drewN n):=h
theorem RS.set{b:Nat}{s:ByteArray}{i:Nat}{w:World}(h:RS b s i w)(j:Nat):RS b s j (w.setCell ⟨b,1,none⟩ (.int .i64 (j:Int))):=by
 obtain⟨t,h⟩:=h;exact⟨t,by simp[World.setCell,Array.getElem?_modify,h]⟩
theorem ac0(s p:ByteArray)(w:World) :
  Calls prog 250 #[.string s,.string p] w fun e w'=>e=.returned (.bool (Lib.hasPrefix s.data.toList p.data.toList))/\w'=w:=Any.strings_HasPrefix Tryz.lays99 s p w
theorem next_any(b:Nat)(s t:ByteArray)(i:Nat)(w:World)(hi:i<=s.size)(h:RS b s i w) :
  Calls prog 235 #[.pointer (some ⟨b,0,none⟩),.string t] w fun e w'=>e=.returned (.bool (Lib.hasPrefix (s.data.toList.drop i) t.data.toList))/\∃n,w'=w.drewN n:=by
 have h0:=h.c0;have h1:=h.c1;obtain⟨X,hX⟩:∃X:ByteArray,X=⟨(s.data.toList.drop i).toArray⟩:=⟨_,rfl⟩;have sl:∀wx,(Instr.slice 9 (.string s) (some (.int .i64 (i:Int))) none none).run prog wx=.ok (.string X) wx:=fun wx=>by rw[hX];exact aau s i hi wx
 obtain⟨p,hp⟩:=zN (Lib.hasPrefix (s.data.toList.drop i) t.data.toList);have CP:Hd (∀w,Calls prog 250 #[.string X,.string t] w fun e w'=>e=.returned (.bool p)/\w'=w):=fun w=>by
  rw[<-hp];have:=ac0 X t w;rw[hX]at this ⊢;exact this
 rw[hp];clear h hX hp hi;go_enter func235,ntmps235;go_wp2;go_quiet (first|(go_at_call 250;exact Calls.quiet_of_same (CP.o _)));go_wp2;go_ret;exact⟨rfl,_,rfl⟩
theorem take_any(b:Nat)(s t:ByteArray)(i:Nat)(w:World)(hi:i<=s.size)(h:RS b s i w)(hs:s.size<2 ^ 62)(ht:t.size<2 ^ 62) :
  Calls prog 217 #[.pointer (some ⟨b,0,none⟩),.string t] w fun e w'=>e=.returned (.bool (Lib.hasPrefix (s.data.toList.drop i) t.data.toList))/\RS b s (if Lib.hasPrefix (s.data.toList.drop i) t.data.toList then i+t.size else i) w'/\w.grownBy w' (some b):=by
 obtain⟨p,hp⟩:=zN (Lib.hasPrefix (s.data.toList.drop i) t.data.toList);have CN:Hd (Calls prog 235 #[.pointer (some ⟨b,0,none⟩),.string t] w fun e w'=>e=.returned (.bool p)/\∃n,w'=w.drewN n):=by
  show Calls _ _ _ _ _;rw[<-hp];exact next_any b s t i w hi h
 rw[hp];have HR:Hd (RS b s i w):=h;have hw:IntKind.i64.wrap ((i:Int)+(t.size:Int))=((i+t.size:Nat):Int):=by rw[IntKind.wrap_i64];omega
 clear hp h hs ht hi
 cases p with
 | true =>
  go_enter func217,ntmps217;go_wp2_with (go_at_call 235;refine CN.o.mono ?_);rintro e w1 ⟨rfl,n,hn⟩;have HR1:Hd (RS b s i w1):=by show RS b s i w1;rw[hn];exact HR.o.drew n
  have aB:Hd (w.grownBy w1 (some b)):=by show w.grownBy w1 (some b);rw[hn];exact au (ai w _) n
  have d1:=HR1.o.c1;have df:=HR1.o.f1;clear hn;go_wp2;go_ret;exact⟨rfl,HR1.o.set (i+t.size),dD aB.o _ _⟩
 | false =>
  go_enter func217,ntmps217;go_wp2_with (go_at_call 235;refine CN.o.mono ?_);rintro e w1 ⟨rfl,n,hn⟩;have HR1:Hd (RS b s i w1):=by show RS b s i w1;rw[hn];exact HR.o.drew n
  have aB:Hd (w.grownBy w1 (some b)):=by show w.grownBy w1 (some b);rw[hn];exact au (ai w _) n
  clear hn;go_wp2;go_ret;exact⟨rfl,HR1.o,aB.o⟩
theorem ac1(b:Nat)(s:ByteArray)(i:Nat)(w:World)(h:RS b s i w) :
  Calls prog 177 #[.pointer (some ⟨b,0,none⟩)] w fun e w'=>e=.returned (.bool (decide (i=s.size)))/\∃n,w'=w.drewN n:=by
 have h0:=h.c0;have h1:=h.c1;clear h
 by_cases hc:i=s.size
 ·have hd:((i:Int) == (s.size:Int))=true:=by simp;omega
  have HD:Hd (decide (i=s.size)=true):=decide_eq_true hc;rw[HD.o];clear hc;go_enter func177,ntmps177;go_wp2;go_quiet (fail);go_wp2;go_ret;exact⟨rfl,_,rfl⟩
 ·have hd:((i:Int) == (s.size:Int))=false:=by simp;omega
  have HD:Hd (decide (i=s.size)=false):=decide_eq_false hc;rw[HD.o];clear hc;go_enter func177,ntmps177;go_wp2;go_quiet (fail);go_wp2;go_ret;exact⟨rfl,_,rfl⟩
theorem U5(l:List UInt8)(i:Nat)(c:UInt8):Lib.hasPrefix (l.drop i) [c]=decide (l[i]?=some c):=by
 have e:l[i]?=(l.drop i)[0]?:=by rw[List.getElem?_drop];rfl
 rw[e]
 cases l.drop i with
 | nil=>rfl
 | cons x r =>
  show(c == x && true)=decide (some x=some c);rw[Bool.and_true]
  by_cases h:x=c
  ·subst h;rw[decide_eq_true rfl];exact beq_self_eq_true x
  ·rw[decide_eq_false (fun e=>h (Option.some.inj e))];exact beq_eq_false_iff_ne.2 (fun e=>h e.symm)
theorem DL(b:Nat)(s:ByteArray)(i:Nat)(c:UInt8)(w:World)(hc:s.data.toList[i]?=some c)(h:RS b s i w)(hs:s.size<2 ^ 62) :
  Calls prog 217 #[.pointer (some ⟨b,0,none⟩),.string ⟨#[c]⟩] w fun e w'=>e=.returned (.bool true)/\RS b s (i+1) w'/\w.grownBy w' (some b):=by
 have hlt:i<s.size:=by have:=(List.getElem?_eq_some_iff.1 hc).1;simpa using this
 have:=take_any b s ⟨#[c]⟩ i w (Nat.le_of_lt hlt) h hs (by show 1 < _;decide);rw[show(ByteArray.mk #[c]).data.toList=[c] from rfl,U5,decide_eq_true hc]at this;exact this
theorem DN(b:Nat)(s:ByteArray)(i:Nat)(c:UInt8)(w:World)(hi:i<=s.size)(hc:¬s.data.toList[i]?=some c)(h:RS b s i w)(hs:s.size<2 ^ 62) :
  Calls prog 217 #[.pointer (some ⟨b,0,none⟩),.string ⟨#[c]⟩] w fun e w'=>e=.returned (.bool false)/\RS b s i w'/\w.grownBy w' (some b):=by
 have:=take_any b s ⟨#[c]⟩ i w hi h hs (by show 1 < _;decide);rw[show(ByteArray.mk #[c]).data.toList=[c] from rfl,U5,decide_eq_false hc]at this;exact this
open Go.RowKit
def placeOf(b:Nat)(w:World):Nat:=match w.cell? ⟨b,1,none⟩ with|some (.int .i64 x)=>x.toNat|_=>0
theorem RS.place{b:Nat}{s:ByteArray}{i:Nat}{w:World}(h:RS b s i w):placeOf b w=i:=by unfold placeOf;rw[h.c1];simp
theorem ac2(b:Nat)(s:ByteArray)(i:Nat)(w:World)(hi:i<=s.size)(h:RS b s i w)(hs:s.size<2 ^ 62) :
  Calls prog 236 #[.pointer (some ⟨b,0,none⟩),.func (.func 237) #[] #[]] w fun e w'=>e=.returned (.string ⟨(ah s.data.toList i (runN aC s.data.toList i)).toArray⟩)/\RS b s (i+runN aC s.data.toList i) w'/\w.grownBy w' (some b):=by
 have h0:=h.c0;have h1:=h.c1;have HR:Hd (RS b s i w):=h;obtain⟨N,hN⟩:=zN (i+runN aC s.data.toList i);have HN:Hd (N<=s.size):=by
  show N<=s.size;have:=rU aC s.data.toList i (by simpa using hi);simp at this;omega
 have HA:Hd (∀j,i<=j->(hj:j<s.size)->j<N->aC s[j]=true):=by
  show ∀j,i<=j->(hj:j<s.size)->j<N->aC s[j]=true;intro j h1 hj h2;obtain⟨g1,g2⟩:=IZ aC s.data.toList i (j-i) (by omega);have e:i+(j-i)=j:=by omega
  simp only[e]at g2;exact g2
 have HS:Hd (∀hj:N<s.size,aC s[N]=false):=by
  show ∀hj:N<s.size,aC s[N]=false;intro hj;have:=EX aC s.data.toList i (by rw[hN];simpa using hj);simp only[hN]at this;exact this
 have HT:Hd (runN aC s.data.toList i=N-i/\i<=N):=⟨by omega,by omega⟩;have HI:Hd (i<=s.size):=hi;rw[show runN aC s.data.toList i=N-i by omega];obtain⟨X,hX⟩:∃X:List UInt8,X=ah s.data.toList i (N-i):=⟨_,rfl⟩;have hsl:∀wx,(Instr.slice 9 (.string s) (some (.int .i64 (i:Int))) (some (.int .i64 (N:Int))) none).run prog wx=.ok (.string ⟨X.toArray⟩) wx:=fun wx=>by rw[hX];exact qF s i N (by omega) HN.o wx
 rw[<-hX,show i+(N-i)=N by omega];clear h hN hi hX;go_enter func236,ntmps236;go_wp2;go_loopw [] (fun wr=>∃j:Nat,i<=j/\j<=N/\RS b s j wr/\w.grownBy wr (some b)) (fun wr=>s.size-placeOf b wr)
 case atStart=>exact⟨i,Nat.le_refl _,HT.o.2,HR.o,ai _ _⟩
 case round =>
  obtain⟨j,hij,hjn,hrs,hgb⟩:=hrel;have d0:=hrs.c0;have d1:=hrs.c1;have df:=hrs.f1;have bK:Hd (RS b s j wr):=hrs;have bY:Hd (w.grownBy wr (some b)):=hgb;have hns:=HN.o;clear hrs hgb h0 h1
  by_cases hlt:j<N
  ·have hjs:j<s.size:=by omega
   have hD:aC s[j]=true:=HA.o j hij hjs hlt;have HK:Hd (i<=j/\j<N):=⟨hij,hlt⟩;clear hlt hjn hns hij;have hlt2:(j:Int)<(s.size:Int):=by omega
   go_wp2;go_quiet (first|(go_at_call 237;exact Calls.quiet_of_same (xJ _ _)));go_wp2;go_roundw
   case rel =>
    have:=HK.o;exact⟨j+1,by omega,by omega,(bK.o.drew _).set (j+1),dD (au bY.o _) _ _⟩
   case measure =>
    have e1:=bK.o.place;have e2:=((bK.o.drew nq).set (j+1)).place;rw[e1];exact Nat.lt_of_le_of_lt (Nat.le_of_eq (congrArg (s.size - ·) e2)) (by omega)
  ·have hjN:j=N:=by omega
   subst hjN
   by_cases hjs:j<s.size
   ·have hD:aC s[j]=false:=HS.o hjs;have hlt2:(j:Int)<(s.size:Int):=by omega
    clear hlt hjn hns hij;go_wp2;go_quiet (first|(go_at_call 237;exact Calls.quiet_of_same (xJ _ _)));go_wp2;obtain⟨W,hW⟩:=zN (wr.drewN nq);have e0:W.cell? ⟨b,0,none⟩=some (.string s):=by rw[<-hW];exact d0
    have e1:W.cell? ⟨b,1,none⟩=some (.int .i64 (j:Int)):=by rw[<-hW];exact d1
    have HW:Hd (RS b s j W/\w.grownBy W (some b)):=by
     show RS b s j W/\w.grownBy W (some b);rw[<-hW];exact⟨bK.o.drew _,au bY.o _⟩
    rw[hW];clear hW d0 d1 df bK bY;go_quiet (fail);go_wp2;go_ret;exact⟨rfl,HW.o.1.drew _,au HW.o.2 _⟩
   ·have hd2:decide ((j:Int)<(s.size:Int))=false:=by simp;omega
    clear hlt hjn hns hij;go_wp2;go_quiet (fail);go_wp2;obtain⟨W,hW⟩:=zN (wr.drewN nq);have e0:W.cell? ⟨b,0,none⟩=some (.string s):=by rw[<-hW];exact d0
    have e1:W.cell? ⟨b,1,none⟩=some (.int .i64 (j:Int)):=by rw[<-hW];exact d1
    have HW:Hd (RS b s j W/\w.grownBy W (some b)):=by
     show RS b s j W/\w.grownBy W (some b);rw[<-hW];exact⟨bK.o.drew _,au bY.o _⟩
    rw[hW];clear hW d0 d1 df bK bY;go_quiet (fail);go_wp2;go_ret;exact⟨rfl,HW.o.1.drew _,au HW.o.2 _⟩
theorem run_parts(b:Nat)(s:ByteArray)(i:Nat)(w:World)(hi:i<=s.size)(h:RS b s i w)(hs:s.size<2 ^ 62) :
  Calls prog 236 #[.pointer (some ⟨b,0,none⟩),.func (.func 251) #[] #[]] w fun e w'=>e=.returned (.string ⟨(ah s.data.toList i (runN aS s.data.toList i)).toArray⟩)/\RS b s (i+runN aS s.data.toList i) w'/\w.grownBy w' (some b):=by
 have h0:=h.c0;have h1:=h.c1;have HR:Hd (RS b s i w):=h;obtain⟨N,hN⟩:=zN (i+runN aS s.data.toList i);have HN:Hd (N<=s.size):=by
  show N<=s.size;have:=rU aS s.data.toList i (by simpa using hi);simp at this;omega
 have HA:Hd (∀j,i<=j->(hj:j<s.size)->j<N->aS s[j]=true):=by
  show ∀j,i<=j->(hj:j<s.size)->j<N->aS s[j]=true;intro j h1 hj h2;obtain⟨g1,g2⟩:=IZ aS s.data.toList i (j-i) (by omega);have e:i+(j-i)=j:=by omega
  simp only[e]at g2;exact g2
 have HS:Hd (∀hj:N<s.size,aS s[N]=false):=by
  show ∀hj:N<s.size,aS s[N]=false;intro hj;have:=EX aS s.data.toList i (by rw[hN];simpa using hj);simp only[hN]at this;exact this
 have HT:Hd (runN aS s.data.toList i=N-i/\i<=N):=⟨by omega,by omega⟩;have HI:Hd (i<=s.size):=hi;rw[show runN aS s.data.toList i=N-i by omega];obtain⟨X,hX⟩:∃X:List UInt8,X=ah s.data.toList i (N-i):=⟨_,rfl⟩;have hsl:∀wx,(Instr.slice 9 (.string s) (some (.int .i64 (i:Int))) (some (.int .i64 (N:Int))) none).run prog wx=.ok (.string ⟨X.toArray⟩) wx:=fun wx=>by rw[hX];exact qF s i N (by omega) HN.o wx
 rw[<-hX,show i+(N-i)=N by omega];clear h hN hi hX;go_enter func236,ntmps236;go_wp2;go_loopw [] (fun wr=>∃j:Nat,i<=j/\j<=N/\RS b s j wr/\w.grownBy wr (some b)) (fun wr=>s.size-placeOf b wr)
 case atStart=>exact⟨i,Nat.le_refl _,HT.o.2,HR.o,ai _ _⟩
 case round =>
  obtain⟨j,hij,hjn,hrs,hgb⟩:=hrel;have d0:=hrs.c0;have d1:=hrs.c1;have df:=hrs.f1;have bK:Hd (RS b s j wr):=hrs;have bY:Hd (w.grownBy wr (some b)):=hgb;have hns:=HN.o;clear hrs hgb h0 h1
  by_cases hlt:j<N
  ·have hjs:j<s.size:=by omega
   have hD:aS s[j]=true:=HA.o j hij hjs hlt;have HK:Hd (i<=j/\j<N):=⟨hij,hlt⟩;clear hlt hjn hns hij;have hlt2:(j:Int)<(s.size:Int):=by omega
   go_wp2;go_quiet (first|(go_at_call 251;exact Calls.quiet_of_same (U4 _ _)));go_wp2;go_roundw
   case rel =>
    have:=HK.o;exact⟨j+1,by omega,by omega,(bK.o.drew _).set (j+1),dD (au bY.o _) _ _⟩
   case measure =>
    have e1:=bK.o.place;have e2:=((bK.o.drew nq).set (j+1)).place;rw[e1];exact Nat.lt_of_le_of_lt (Nat.le_of_eq (congrArg (s.size - ·) e2)) (by omega)
  ·have hjN:j=N:=by omega
   subst hjN
   by_cases hjs:j<s.size
   ·have hD:aS s[j]=false:=HS.o hjs;have hlt2:(j:Int)<(s.size:Int):=by omega
    clear hlt hjn hns hij;go_wp2;go_quiet (first|(go_at_call 251;exact Calls.quiet_of_same (U4 _ _)));go_wp2;obtain⟨W,hW⟩:=zN (wr.drewN nq);have e0:W.cell? ⟨b,0,none⟩=some (.string s):=by rw[<-hW];exact d0
    have e1:W.cell? ⟨b,1,none⟩=some (.int .i64 (j:Int)):=by rw[<-hW];exact d1
    have HW:Hd (RS b s j W/\w.grownBy W (some b)):=by
     show RS b s j W/\w.grownBy W (some b);rw[<-hW];exact⟨bK.o.drew _,au bY.o _⟩
    rw[hW];clear hW d0 d1 df bK bY;go_quiet (fail);go_wp2;go_ret;exact⟨rfl,HW.o.1.drew _,au HW.o.2 _⟩
   ·have hd2:decide ((j:Int)<(s.size:Int))=false:=by simp;omega
    clear hlt hjn hns hij;go_wp2;go_quiet (fail);go_wp2;obtain⟨W,hW⟩:=zN (wr.drewN nq);have e0:W.cell? ⟨b,0,none⟩=some (.string s):=by rw[<-hW];exact d0
    have e1:W.cell? ⟨b,1,none⟩=some (.int .i64 (j:Int)):=by rw[<-hW];exact d1
    have HW:Hd (RS b s j W/\w.grownBy W (some b)):=by
     show RS b s j W/\w.grownBy W (some b);rw[<-hW];exact⟨bK.o.drew _,au bY.o _⟩
    rw[hW];clear hW d0 d1 df bK bY;go_quiet (fail);go_wp2;go_ret;exact⟨rfl,HW.o.1.drew _,au HW.o.2 _⟩
open Go.RowKit
theorem Ak{a:ByteArray}(h:a.size=0):a.toList.isEmpty=true:=by
 rw[Lib.toList_data,List.isEmpty_iff];exact List.length_eq_zero_iff.1 (by simpa using h)
theorem Am{a:ByteArray}(h:a.size≠0):a.toList.isEmpty=false:=by
 rw[Lib.toList_data]
 cases hl:a.data.toList with
 | nil=>exact absurd (show a.size=0 from by show a.data.size=0;rw[<-Array.length_toList,hl];rfl) h
 | cons c l=>rfl
theorem RS.grow{b:Nat}{s:ByteArray}{i:Nat}{w w':World}(h:RS b s i w)(hg:w.grownBy w' none):RS b s i w':=by
 obtain⟨t,h⟩:=h;exact⟨t,by rw[hg.block b ((bz h)) (by simp)];exact h⟩
theorem U6(s:ByteArray)(w:World):Calls prog 238 #[.string s] w fun e w'=>e=.returned (.bool (decide (1<s.data.toList.length) && decide (s.data.toList[0]?=some 48)))/\w'=w:=by
 by_cases h1:1<s.size
 ·have h0:0<s.size:=by omega
  have hl:decide (1<s.data.toList.length)=true:=by simp;exact h1
  rw[hl,Bool.true_and,jY s 0 h0]
  cases hz:((s[0].toNat:Int) == 48) with
  | true =>
   have hc:s[0]=48:=UInt8.toNat_inj.1 (by have:=eq_of_beq hz;have e48:(48:UInt8).toNat=48:=rfl;omega);have HZ:Hd (decide (some s[0]=some (48:UInt8))=true):=by show decide _=true;rw[hc];rfl
   rw[HZ.o];clear hc hl;go_enter func238,ntmps238;go_wp2;go_ret;exact⟨rfl,rfl⟩
  | false =>
   have HZ:Hd (decide (some s[0]=some (48:UInt8))=false):=by
    show decide _=false;apply decide_eq_false;intro e;rw[Option.some.inj e]at hz;exact absurd hz (by decide)
   rw[HZ.o];clear hl;go_enter func238,ntmps238;go_wp2;go_ret;exact⟨rfl,rfl⟩
 ·have hl:decide (1<s.data.toList.length)=false:=by simp;exact Nat.le_of_not_lt h1
  rw[hl,Bool.false_and];clear hl;go_enter func238,ntmps238;go_wp2;go_ret;exact⟨rfl,rfl⟩
theorem ac3(b:Nat)(s:ByteArray)(i:Nat)(w:World)(hi:i<=s.size)(h:RS b s i w)(hs:s.size<2 ^ 62) :
  Calls prog 239 #[.pointer (some ⟨b,0,none⟩),.int .i64 0] w fun e w'=>e=.returned (.int .i64 (ak true s.data.toList i).1)/\RS b s (ak true s.data.toList i).2 w'/\w.grownBy w' (some b):=by
 have HI:Hd (RS b s i w/\i<=s.size):=⟨h,hi⟩;obtain⟨E,Q,jD⟩:∃E Q,ak true s.data.toList i=(E,Q):=⟨_,_,rfl⟩;rw[jD];have yG:Hd (ak true s.data.toList i=(E,Q)):=jD;have hsl:s.data.toList.length=s.size:=by simp
 have iO:Hd (s.data.toList.length=s.size):=hsl;clear h hi jD hsl;go_enter func239,ntmps239;go_wp2;go_loopw [] (fun wr=>∃j:Nat,j<=s.size/\RS b s j wr/\w.grownBy wr (some b)/\ak true s.data.toList j=(E,Q)) (fun wr=>s.size-placeOf b wr)
 case atStart=>exact⟨i,HI.o.2,HI.o.1,ai _ _,yG.o⟩
 case round =>
  obtain⟨j,hj,hrs,hgb,hrd⟩:=hrel;have CR:Hd (Calls prog 236 #[.pointer (some ⟨b,0,none⟩),.func (.func 251) #[] #[]] wr fun e w'=>e=.returned (.string ⟨(ah s.data.toList j (runN aS s.data.toList j)).toArray⟩)/\RS b s (j+runN aS s.data.toList j) w'/\wr.grownBy w' (some b)):=run_parts b s j wr hj hrs hs;have dF:Hd (placeOf b wr=j):=hrs.place;have d1:=hrs.c1;have hle:j+runN aS s.data.toList j<=s.size:=by have:=rU aS s.data.toList j (by rw[iO.o];exact hj);rw[iO.o]at this;exact this
  have hln:=rX s.data.toList j (runN aS s.data.toList j) (by rw[iO.o];exact hle);rw[EZ]at hrd;obtain⟨k,hk⟩:=zN (runN aS s.data.toList j);rw[hk]at CR hrd hle hln;obtain⟨T,hT⟩:=zN (ah s.data.toList j k);rw[hT]at CR hrd hln;obtain⟨X,hX⟩:∃X:ByteArray,X=⟨T.toArray⟩:=⟨_,rfl⟩;rw[<-hX]at CR;have Ap:Hd (X.data.toList=T):=by show X.data.toList=T;rw[hX]
  have eQ:X.size=k:=by rw[hX];show T.toArray.size=k;simpa using hln
  have bY:Hd (w.grownBy wr (some b)):=hgb;have bK:Hd (RS b s j wr):=hrs;have bH:Hd ((if k=0 then(2,j) else if iY true T=true then(2,j) else if s.data.toList[j+k]?=some 46 then ak true s.data.toList (j+k+1) else(0,j+k))=(E,Q)):=hrd;clear hk hT hX hgb hrs hrd hln
  by_cases hk0:k=0
  ·have e1:=Ak (eQ.trans hk0);have HZ:Hd (E=2/\Q=j):=by
    have:=bH.o;rw[if_pos hk0]at this;exact⟨(congrArg Prod.fst this).symm,(congrArg Prod.snd this).symm⟩
   have HK:Hd (k=0):=hk0;clear hk0 eQ hle;go_wp2_with (go_at_call 236;refine CR.o.mono ?_);rintro e w1 ⟨rfl,hr1,hg1⟩;have HF:Hd (RS b s Q w1/\w.grownBy w1 (some b)):=by
    refine⟨?_,af bY.o hg1⟩;rw[HZ.o.2];rw[HK.o]at hr1;exact hr1
   clear hr1 hg1;go_wp2;go_ret;exact⟨eX HZ.o.1.symm,HF.o.1,HF.o.2⟩
  ·have e1:=Am (fun h=>hk0 (eQ.symm.trans h));have oz:Hd (X.data.toList.isEmpty=false):=by show X.data.toList.isEmpty=false;rw[<-Lib.toList_data];exact e1
   have HK:Hd (¬k=0):=hk0;have U7:X.size<2 ^ 62:=by omega
   have qg:Hd (j+k<=s.size):=hle;clear hk0 eQ hle;go_wp2_with (go_at_call 236;refine CR.o.mono ?_);rintro e w1 ⟨rfl,hr1,hg1⟩;have HR1:Hd (RS b s (j+k) w1):=hr1;have aB:Hd (w.grownBy w1 (some b)):=af bY.o hg1;clear hr1 hg1;have CD:Hd (∀w,Calls prog 252 #[.string X] w fun e w'=>e=.returned (.bool (oh X.data.toList))/\w.grownBy w' none):=fun w=>QU X w U7
   obtain⟨dX,Me⟩:∃d,oh X.data.toList=d:=⟨_,rfl⟩;rw[Me]at CD;have HDX:Hd (T.all aC=dX):=by
    show T.all aC=dX;rw[<-Me];unfold oh;rw[oz.o,Ap.o];rfl
   obtain⟨z,hz⟩:=zN ((decide (1<X.data.toList.length) && decide (X.data.toList[0]?=some 48)));have CZ:Hd (∀w,Calls prog 238 #[.string X] w fun e w'=>e=.returned (.bool z)/\w'=w):=fun w=>by rw[<-hz];exact U6 X w
   have dH:Hd (iY true T=(dX && z)):=by
    show iY true T=_;rw[<-hz,<-HDX.o,Ap.o];rfl
   clear Me hz;go_wp2_with (go_at_call 252;refine(CD.o _).mono ?_);rintro e w2 ⟨rfl,hg2⟩;replace HR1:Hd (RS b s (j+k) w2):=HR1.o.grow hg2;replace aB:Hd (w.grownBy w2 (some b)):=af aB.o (Gf hg2 _);clear hg2
   cases dX with
   | false =>
    have HB:Hd (iY true T=false):=by show iY true T=false;rw[dH.o];rfl
    cases hc:decide (s.data.toList[j+k]?=some 46) with
    | true =>
     have hc':=of_decide_eq_true hc;have HT:Hd (ak true s.data.toList (j+k+1)=(E,Q)):=by
      have:=bH.o;rw[if_neg HK.o,if_neg (by rw[HB.o];simp),if_pos hc']at this;exact this
     have CT:Hd (Calls prog 217 #[.pointer (some ⟨b,0,none⟩),.string ⟨#[46]⟩] w2 fun e w'=>e=.returned (.bool true)/\RS b s (j+k+1) w'/\w2.grownBy w' (some b)):=DL b s (j+k) 46 w2 hc' HR1.o hs;have dE:Hd (j+k<s.size):=by have:=(List.getElem?_eq_some_iff.1 hc').1;rw[iO.o]at this;exact this
     clear hc hc';go_wp2_with (go_at_call 217;refine CT.o.mono ?_);rintro e w3 ⟨rfl,hr3,hg3⟩;have HF:Hd (RS b s (j+k+1) w3/\w.grownBy w3 (some b)):=⟨hr3,af aB.o hg3⟩;clear hr3 hg3;go_wp2;go_roundw
     case rel=>exact⟨j+k+1,dE.o,HF.o.1,HF.o.2,HT.o⟩
     case measure =>
      rw[dF.o,HF.o.1.place];have:=dE.o;omega
    | false =>
     have hc':=of_decide_eq_false hc;have HT:Hd (E=0/\Q=j+k):=by
      have:=bH.o;rw[if_neg HK.o,if_neg (by rw[HB.o];simp),if_neg hc']at this;exact⟨(congrArg Prod.fst this).symm,(congrArg Prod.snd this).symm⟩
     have CT:Hd (Calls prog 217 #[.pointer (some ⟨b,0,none⟩),.string ⟨#[46]⟩] w2 fun e w'=>e=.returned (.bool false)/\RS b s (j+k) w'/\w2.grownBy w' (some b)):=DN b s (j+k) 46 w2 qg.o hc' HR1.o hs;clear hc hc';go_wp2_with (go_at_call 217;refine CT.o.mono ?_);rintro e w3 ⟨rfl,hr3,hg3⟩;have HF:Hd (RS b s (j+k) w3/\w.grownBy w3 (some b)):=⟨hr3,af aB.o hg3⟩;clear hr3 hg3;go_wp2;go_ret;exact⟨eX HT.o.1.symm,by rw[HT.o.2];exact HF.o.1,HF.o.2⟩
   | true =>
    cases z with
    | true =>
     have HZ:Hd (E=2/\Q=j):=by
      have:=bH.o;rw[if_neg HK.o,if_pos (by rw[dH.o];rfl)]at this;exact⟨(congrArg Prod.fst this).symm,(congrArg Prod.snd this).symm⟩
     have f1:=HR1.o.c1;have f2:=HR1.o.f1;go_wp2_with (go_at_call 238;refine(CZ.o _).mono ?_;rintro e w' ⟨rfl,rfl⟩);go_ret;exact⟨eX HZ.o.1.symm,by rw[HZ.o.2];exact HR1.o.set j,dD aB.o _ _⟩
    | false =>
     have HB:Hd (iY true T=false):=by show iY true T=false;rw[dH.o];rfl
     cases hc:decide (s.data.toList[j+k]?=some 46) with
     | true =>
      have hc':=of_decide_eq_true hc;have HT:Hd (ak true s.data.toList (j+k+1)=(E,Q)):=by
       have:=bH.o;rw[if_neg HK.o,if_neg (by rw[HB.o];simp),if_pos hc']at this;exact this
      have CT:Hd (Calls prog 217 #[.pointer (some ⟨b,0,none⟩),.string ⟨#[46]⟩] w2 fun e w'=>e=.returned (.bool true)/\RS b s (j+k+1) w'/\w2.grownBy w' (some b)):=DL b s (j+k) 46 w2 hc' HR1.o hs;have dE:Hd (j+k<s.size):=by have:=(List.getElem?_eq_some_iff.1 hc').1;rw[iO.o]at this;exact this
      clear hc hc';go_wp2_with (first|(go_at_call 238;refine(CZ.o _).mono ?_;rintro e w' ⟨rfl,rfl⟩)|(go_at_call 217;refine CT.o.mono ?_));rintro e w3 ⟨rfl,hr3,hg3⟩;have HF:Hd (RS b s (j+k+1) w3/\w.grownBy w3 (some b)):=⟨hr3,af aB.o hg3⟩;clear hr3 hg3;go_wp2;go_roundw
      case rel=>exact⟨j+k+1,dE.o,HF.o.1,HF.o.2,HT.o⟩
      case measure =>
       rw[dF.o,HF.o.1.place];have:=dE.o;omega
     | false =>
      have hc':=of_decide_eq_false hc;have HT:Hd (E=0/\Q=j+k):=by
       have:=bH.o;rw[if_neg HK.o,if_neg (by rw[HB.o];simp),if_neg hc']at this;exact⟨(congrArg Prod.fst this).symm,(congrArg Prod.snd this).symm⟩
      have CT:Hd (Calls prog 217 #[.pointer (some ⟨b,0,none⟩),.string ⟨#[46]⟩] w2 fun e w'=>e=.returned (.bool false)/\RS b s (j+k) w'/\w2.grownBy w' (some b)):=DN b s (j+k) 46 w2 qg.o hc' HR1.o hs;clear hc hc';go_wp2_with (first|(go_at_call 238;refine(CZ.o _).mono ?_;rintro e w' ⟨rfl,rfl⟩)|(go_at_call 217;refine CT.o.mono ?_));rintro e w3 ⟨rfl,hr3,hg3⟩;have HF:Hd (RS b s (j+k) w3/\w.grownBy w3 (some b)):=⟨hr3,af aB.o hg3⟩;clear hr3 hg3;go_wp2;go_ret;exact⟨eX HT.o.1.symm,by rw[HT.o.2];exact HF.o.1,HF.o.2⟩
theorem ac4(b:Nat)(s:ByteArray)(i:Nat)(w:World)(hi:i<=s.size)(h:RS b s i w)(hs:s.size<2 ^ 62) :
  Calls prog 239 #[.pointer (some ⟨b,0,none⟩),.int .i64 1] w fun e w'=>e=.returned (.int .i64 (ak false s.data.toList i).1)/\RS b s (ak false s.data.toList i).2 w'/\w.grownBy w' (some b):=by
 have HI:Hd (RS b s i w/\i<=s.size):=⟨h,hi⟩;obtain⟨E,Q,jD⟩:∃E Q,ak false s.data.toList i=(E,Q):=⟨_,_,rfl⟩;rw[jD];have yG:Hd (ak false s.data.toList i=(E,Q)):=jD;have hsl:s.data.toList.length=s.size:=by simp
 have iO:Hd (s.data.toList.length=s.size):=hsl;clear h hi jD hsl;go_enter func239,ntmps239;go_wp2;go_loopw [] (fun wr=>∃j:Nat,j<=s.size/\RS b s j wr/\w.grownBy wr (some b)/\ak false s.data.toList j=(E,Q)) (fun wr=>s.size-placeOf b wr)
 case atStart=>exact⟨i,HI.o.2,HI.o.1,ai _ _,yG.o⟩
 case round =>
  obtain⟨j,hj,hrs,hgb,hrd⟩:=hrel;have CR:Hd (Calls prog 236 #[.pointer (some ⟨b,0,none⟩),.func (.func 251) #[] #[]] wr fun e w'=>e=.returned (.string ⟨(ah s.data.toList j (runN aS s.data.toList j)).toArray⟩)/\RS b s (j+runN aS s.data.toList j) w'/\wr.grownBy w' (some b)):=run_parts b s j wr hj hrs hs;have dF:Hd (placeOf b wr=j):=hrs.place;have d1:=hrs.c1;have hle:j+runN aS s.data.toList j<=s.size:=by have:=rU aS s.data.toList j (by rw[iO.o];exact hj);rw[iO.o]at this;exact this
  have hln:=rX s.data.toList j (runN aS s.data.toList j) (by rw[iO.o];exact hle);rw[EZ]at hrd;obtain⟨k,hk⟩:=zN (runN aS s.data.toList j);rw[hk]at CR hrd hle hln;obtain⟨T,hT⟩:=zN (ah s.data.toList j k);rw[hT]at CR hrd hln;obtain⟨X,hX⟩:∃X:ByteArray,X=⟨T.toArray⟩:=⟨_,rfl⟩;rw[<-hX]at CR;have Ap:Hd (X.data.toList=T):=by show X.data.toList=T;rw[hX]
  have eQ:X.size=k:=by rw[hX];show T.toArray.size=k;simpa using hln
  have bY:Hd (w.grownBy wr (some b)):=hgb;have bK:Hd (RS b s j wr):=hrs;have bH:Hd ((if k=0 then(2,j) else if iY false T=true then(2,j) else if s.data.toList[j+k]?=some 46 then ak false s.data.toList (j+k+1) else(0,j+k))=(E,Q)):=hrd;clear hk hT hX hgb hrs hrd hln
  by_cases hk0:k=0
  ·have e1:=Ak (eQ.trans hk0);have HZ:Hd (E=2/\Q=j):=by
    have:=bH.o;rw[if_pos hk0]at this;exact⟨(congrArg Prod.fst this).symm,(congrArg Prod.snd this).symm⟩
   have HK:Hd (k=0):=hk0;clear hk0 eQ hle;go_wp2_with (go_at_call 236;refine CR.o.mono ?_);rintro e w1 ⟨rfl,hr1,hg1⟩;have HF:Hd (RS b s Q w1/\w.grownBy w1 (some b)):=by
    refine⟨?_,af bY.o hg1⟩;rw[HZ.o.2];rw[HK.o]at hr1;exact hr1
   clear hr1 hg1;go_wp2;go_ret;exact⟨eX HZ.o.1.symm,HF.o.1,HF.o.2⟩
  ·have e1:=Am (fun h=>hk0 (eQ.symm.trans h));have oz:Hd (X.data.toList.isEmpty=false):=by show X.data.toList.isEmpty=false;rw[<-Lib.toList_data];exact e1
   have HK:Hd (¬k=0):=hk0;have U7:X.size<2 ^ 62:=by omega
   have qg:Hd (j+k<=s.size):=hle;clear hk0 eQ hle;go_wp2_with (go_at_call 236;refine CR.o.mono ?_);rintro e w1 ⟨rfl,hr1,hg1⟩;have HR1:Hd (RS b s (j+k) w1):=hr1;have aB:Hd (w.grownBy w1 (some b)):=af bY.o hg1;clear hr1 hg1;have HB:Hd (iY false T=false):=rfl
   cases hc:decide (s.data.toList[j+k]?=some 46) with
   | true =>
    have hc':=of_decide_eq_true hc;have HT:Hd (ak false s.data.toList (j+k+1)=(E,Q)):=by
     have:=bH.o;rw[if_neg HK.o,if_neg (by rw[HB.o];simp),if_pos hc']at this;exact this
    have CT:Hd (Calls prog 217 #[.pointer (some ⟨b,0,none⟩),.string ⟨#[46]⟩] w1 fun e w'=>e=.returned (.bool true)/\RS b s (j+k+1) w'/\w1.grownBy w' (some b)):=DL b s (j+k) 46 w1 hc' HR1.o hs;have dE:Hd (j+k<s.size):=by have:=(List.getElem?_eq_some_iff.1 hc').1;rw[iO.o]at this;exact this
    clear hc hc';go_wp2_with (go_at_call 217;refine CT.o.mono ?_);rintro e w3 ⟨rfl,hr3,hg3⟩;have HF:Hd (RS b s (j+k+1) w3/\w.grownBy w3 (some b)):=⟨hr3,af aB.o hg3⟩;clear hr3 hg3;go_wp2;go_roundw
    case rel=>exact⟨j+k+1,dE.o,HF.o.1,HF.o.2,HT.o⟩
    case measure =>
     rw[dF.o,HF.o.1.place];have:=dE.o;omega
   | false =>
    have hc':=of_decide_eq_false hc;have HT:Hd (E=0/\Q=j+k):=by
     have:=bH.o;rw[if_neg HK.o,if_neg (by rw[HB.o];simp),if_neg hc']at this;exact⟨(congrArg Prod.fst this).symm,(congrArg Prod.snd this).symm⟩
    have CT:Hd (Calls prog 217 #[.pointer (some ⟨b,0,none⟩),.string ⟨#[46]⟩] w1 fun e w'=>e=.returned (.bool false)/\RS b s (j+k) w'/\w1.grownBy w' (some b)):=DN b s (j+k) 46 w1 qg.o hc' HR1.o hs;clear hc hc';go_wp2_with (go_at_call 217;refine CT.o.mono ?_);rintro e w3 ⟨rfl,hr3,hg3⟩;have HF:Hd (RS b s (j+k) w3/\w.grownBy w3 (some b)):=⟨hr3,af aB.o hg3⟩;clear hr3 hg3;go_wp2;go_ret;exact⟨eX HT.o.1.symm,by rw[HT.o.2];exact HF.o.1,HF.o.2⟩
open Go.RowKit
theorem U8(T:List UInt8)(m:Nat)(hm:m<T.length):aK (T.take (m+1))=10*aK (T.take m)+((T[m].toNat:Int)-48):=by
 rw[List.take_succ_eq_append_getElem hm,PK];rfl
theorem ac5(b:Nat)(s:ByteArray)(i:Nat)(w:World)(hi:i<=s.size)(h:RS b s i w)(hs:s.size<2 ^ 62) :
  Calls prog 218 #[.pointer (some ⟨b,0,none⟩)] w fun e w'=>e=.returned (.tuple #[.int .i64 (rdNum s.data.toList i).2.1,.int .i64 (rdNum s.data.toList i).1])/\RS b s (rdNum s.data.toList i).2.2 w'/\w.grownBy w' (some b):=by
 obtain⟨E,V,Q,jD⟩:∃E V Q,rdNum s.data.toList i=(E,V,Q):=⟨_,_,_,rfl⟩;rw[jD];have hsl:s.data.toList.length=s.size:=by simp
 have CR:Hd (Calls prog 236 #[.pointer (some ⟨b,0,none⟩),.func (.func 237) #[] #[]] w fun e w'=>e=.returned (.string ⟨(ah s.data.toList i (runN aC s.data.toList i)).toArray⟩)/\RS b s (i+runN aC s.data.toList i) w'/\w.grownBy w' (some b)):=ac2 b s i w hi h hs;have d1:=h.c1;have hle:i+runN aC s.data.toList i<=s.size:=by have:=rU aC s.data.toList i (by rw[hsl];exact hi);rw[hsl]at this;exact this
 have hln:=rX s.data.toList i (runN aC s.data.toList i) (by rw[hsl];exact hle);have hall:=Fg aC s.data.toList i;have hT0:∀k,0<k->i+k<=s.data.toList.length->(ah s.data.toList i k)[0]?=s.data.toList[i]?:=by
  intro k hk hik;unfold ah;rw[List.getElem?_take_of_lt hk,List.getElem?_drop];rfl
 unfold rdNum at jD;obtain⟨k,hk⟩:=zN (runN aC s.data.toList i);rw[hk]at CR jD hle hln hall;have MB:=hT0 k;obtain⟨T,hT⟩:=zN (ah s.data.toList i k);rw[hT]at CR jD hln hall MB;obtain⟨X,hX⟩:∃X:ByteArray,X=⟨T.toArray⟩:=⟨_,rfl⟩;rw[<-hX]at CR;have Ap:Hd (X.data.toList=T):=by show X.data.toList=T;rw[hX]
 have eQ:X.size=k:=by rw[hX];show T.toArray.size=k;simpa using hln
 have yG:Hd ((if k=0 then(2,0,i) else if 1<k/\s.data.toList[i]?=some 48 then(2,0,i) else if aK T > 999999999 then(3,0,i) else(0,aK T,i+k))=(E,V,Q)):=jD;have oZ:Hd (T.all aC=true/\T.length=k/\(0<k->T[0]?=s.data.toList[i]?)):=⟨hall,hln,fun h=>MB h (by rw[hsl];exact hle)⟩;clear hk hT hX jD hln hall hT0 MB h hsl hi
 by_cases hk0:k=0
 ·have e1:=Ak (eQ.trans hk0);have HZ:Hd (E=2/\V=0/\Q=i+k):=by
   have:=yG.o;rw[if_pos hk0]at this;exact⟨(congrArg Prod.fst this).symm,(congrArg (·.2.1) this).symm,by rw[hk0];exact(congrArg (·.2.2) this).symm⟩
  clear hk0 eQ hle;go_enter func218,ntmps218;go_wp2_with (go_at_call 236;refine CR.o.mono ?_);rintro e w1 ⟨rfl,hr1,hg1⟩;have HF:Hd (RS b s Q w1/\w.grownBy w1 (some b)):=⟨by rw[HZ.o.2.2];exact hr1,hg1⟩;clear hr1 hg1;go_wp2;refine bodyPost_ret (results_tmp2 rfl _ _ _) rfl ⟨?_,HF.o.1,HF.o.2⟩;rw[HZ.o.1,HZ.o.2.1];rfl
 ·have e1:=Am (fun h=>hk0 (eQ.symm.trans h));obtain⟨z,hz⟩:=zN ((decide (1<X.data.toList.length) && decide (X.data.toList[0]?=some 48)));have CZ:Hd (∀w,Calls prog 238 #[.string X] w fun e w'=>e=.returned (.bool z)/\w'=w):=fun w=>by rw[<-hz];exact U6 X w
  have U9:Hd (z=decide (1<k/\s.data.toList[i]?=some 48)):=by
   show z=_;rw[<-hz,Ap.o,oZ.o.2.1,oZ.o.2.2 (by omega)];rw[Bool.eq_iff_iff];simp
  have HK:Hd (¬k=0):=hk0;clear hz hk0;go_enter func218,ntmps218;go_wp2_with (go_at_call 236;refine CR.o.mono ?_);rintro e w1 ⟨rfl,hr1,hg1⟩;have HR1:Hd (RS b s (i+k) w1):=hr1;have aB:Hd (w.grownBy w1 (some b)):=hg1;have f1:=hr1.c1;have f2:=hr1.f1;clear hr1 hg1
  cases z with
  | true =>
   have HZ:Hd (E=2/\V=0/\Q=i):=by
    have:=yG.o;rw[if_neg HK.o,if_pos (of_decide_eq_true U9.o.symm)]at this;exact⟨(congrArg Prod.fst this).symm,(congrArg (·.2.1) this).symm,(congrArg (·.2.2) this).symm⟩
   go_wp2_with (go_at_call 238;refine(CZ.o _).mono ?_;rintro e w' ⟨rfl,rfl⟩);refine bodyPost_ret (results_tmp2 rfl _ _ _) rfl ⟨?_,by rw[HZ.o.2.2];exact HR1.o.set i,dD aB.o _ _⟩;rw[HZ.o.1,HZ.o.2.1];rfl
  | false =>
   have HV:Hd ((if aK T > 999999999 then(3,0,i) else(0,aK T,i+k))=(E,V,Q)):=by
    have:=yG.o;rw[if_neg HK.o,if_neg (of_decide_eq_false U9.o.symm)]at this;exact this
   have kw:=Lib.run_convert_string_bytes (P:=prog) w1 9 69 5 X underlying9 underlying69 underlying5;obtain⟨W,hW⟩:=zN (Lib.bytesWorld w1 5 X);have HC:Hd (∀j,(hj:j<X.size)->W.cell? ⟨w1.heap.size,j,none⟩=some (.int .u8 (X[j].toNat:Int))):=by
    show ∀j,(hj:j<X.size)->W.cell? ⟨w1.heap.size,j,none⟩=some (.int .u8 (X[j].toNat:Int));intro j hj;rw[<-hW,Lib.bytesWorld_cell w1 _ X j hj];have:X.data.toList.getD j 0=X[j]:=by
     rw[List.getD_eq_getElem?_getD,jY X j hj];rfl
    rw[this]
   have hgW:w1.grownBy W none:=by rw[<-hW];exact JG w1 _ X
   rw[hW]at kw;have HRW:Hd (RS b s (i+k) W):=HR1.o.grow hgW;have dW:Hd (w.grownBy W (some b)):=af aB.o (Gf hgW _);have g1:=HRW.o.c1;have g2:=HRW.o.f1;clear hW hgW f1 f2;go_wp2_with (go_at_call 238;refine(CZ.o _).mono ?_;rintro e w' ⟨rfl,rfl⟩);have sZ:Hd (X.size=k):=eQ;have hks:k<2 ^ 62:=by omega
   clear eQ hle
   go_loop [6,26] (fun vn vi=>∃m:Nat,m<=k/\vi=.int .i64 m/\vn=.int .i64 (aK (T.take m))/\aK (T.take m)<=999999999) (fun _ vi=>k-(intOf vi).toNat)
   case atStart=>exact⟨0,Nat.zero_le _,rfl,rfl,by show(0:Int)<=_;omega⟩
   case round =>
    obtain⟨m,hm,rfl,rfl,hvm⟩:=hrel
    by_cases hlt:m<k
    ·have H8:m<T.length:=by rw[oZ.o.2.1];exact hlt
     have MC:m<X.size:=by rw[sZ.o];exact hlt
     have Va:X[m]=T[m]:=by
      have:=jY X m MC;rw[Ap.o,List.getElem?_eq_getElem H8]at this;exact(Option.some.inj this).symm
     have cm:=HC.o m MC;have hdg:=yU (List.all_eq_true.1 oZ.o.1 T[m] (List.getElem_mem H8));have hvt:=U8 T m H8;have hv0:0<=aK (T.take m):=EY _ (List.all_eq_true.2 (fun c hc=>List.all_eq_true.1 oZ.o.1 c (List.mem_of_mem_take hc)));have hpre:aK (T.take (m+1))<=aK T:=by
      have:=PL (T.take (m+1)) (T.drop (m+1)) (by rw[List.take_append_drop];exact oZ.o.1);rw[List.take_append_drop]at this;exact this
     rw[Va]at cm;obtain⟨c,hc⟩:∃c:Int,c=(T[m].toNat:Int):=⟨_,rfl⟩;rw[<-hc]at cm hvt;obtain⟨v,hv⟩:∃v,v=aK (T.take m):=⟨_,rfl⟩;rw[<-hv]at hvt hv0 hvm;rw[<-hv];have hc0:48<=c/\c<=57:=by omega
     have r1:IntKind.i64.wrap (10*v)=10*v:=by rw[IntKind.wrap_i64];omega
     have r2:IntKind.u8.wrap (c-48)=c-48:=by rw[IntKind.wrap_u8];omega
     have r3:IntKind.i64.wrap (c-48)=c-48:=by rw[IntKind.wrap_i64];omega
     have r4:IntKind.i64.wrap (10*v+(c-48))=10*v+(c-48):=by rw[IntKind.wrap_i64];omega
     have wo:Hd (aK (T.take (m+1))=10*v+(c-48)/\aK (T.take (m+1))<=aK T):=⟨hvt,hpre⟩;clear hc hv Va hdg hvt hpre H8 MC
     by_cases hbig:999999999<10*v+(c-48)
     ·have HZ:Hd (E=3/\V=0/\Q=i):=by
       have h1:=wo.o;have:=HV.o;rw[if_pos (by omega)]at this;exact⟨(congrArg Prod.fst this).symm,(congrArg (·.2.1) this).symm,(congrArg (·.2.2) this).symm⟩
      go_wp2;refine bodyPost_ret (results_tmp2 rfl _ _ _) rfl ⟨?_,by rw[HZ.o.2.2];exact HRW.o.set i,dD dW.o _ _⟩;rw[HZ.o.1,HZ.o.2.1];rfl
     ·go_wp2
      go_round
      case rel=>exact⟨m+1,by omega,by go_num,by rw[wo.o.1],by rw[wo.o.1];omega⟩
      case measure=>simp[intOf];omega
    ·have hmk:m=k:=by omega
     have HTk:Hd (T.take m=T):=by show T.take m=T;rw[hmk];exact List.take_of_length_le (by rw[oZ.o.2.1];exact Nat.le_refl _)
     have HZ:Hd (E=0/\V=aK (T.take m)/\Q=i+k):=by
      have:=HV.o;rw[HTk.o]at hvm ⊢;rw[if_neg (by omega)]at this;exact⟨(congrArg Prod.fst this).symm,(congrArg (·.2.1) this).symm,(congrArg (·.2.2) this).symm⟩
     clear hmk hm hvm;go_wp2;refine bodyPost_ret (results_tmp2 rfl _ _ _) rfl ⟨?_,by rw[HZ.o.2.2];exact HRW.o,dW.o⟩;rw[HZ.o.1,HZ.o.2.1];rfl
end Go.Proofs.YtmkjelchiacogaaGreatDoor
