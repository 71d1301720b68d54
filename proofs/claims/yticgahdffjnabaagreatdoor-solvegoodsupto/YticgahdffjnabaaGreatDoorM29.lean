import Derived.Test.YticgahdffjnabaaGreatDoorM04
import Derived.WalkKit
import Derived.WalkSpells
import Derived.WalkLawsBesides
import Derived.Deep.QuietTactic
import Derived.BigQuiet
import Derived.Below
import Derived.Test.YticgahdffjnabaaGreatDoorM03
import Derived.Test.YticgahdffjnabaaGreatDoorM28
import Derived.Test.YticgahdffjnabaaGreatDoorM24
import Derived.Test.YticgahdffjnabaaGreatDoorM15
import Derived.Test.YticgahdffjnabaaGreatDoorM02
import Derived.Test.YticgahdffjnabaaGreatDoorM27
import Derived.Test.YticgahdffjnabaaGreatDoorM21
set_option linter.unusedVariables false
set_option maxHeartbeats 4000000
namespace Go.Proofs.YticgahdffjnabaaGreatDoor
open Go.RowKit
def isL (c:UInt8):Bool:=decide (97<=c.toNat/\c.toNat<=122)
def isN (c:UInt8):Bool:=isL c || isD c || decide (c.toNat=45) || decide (c.toNat=95)
def NameP (s:ByteArray):Prop:=1<=s.size/\s.size<=30/\(∀h:0 < s.size,isL s[0]=true)/\∀j,(hj:j < s.size)->1<=j->isN s[j]=true
open Classical in
noncomputable def nameB (s:ByteArray):Bool:=decide (NameP s)
theorem nameB_t {s:ByteArray} (h:NameP s):nameB s=true:=by simp [nameB,h]
theorem nameB_f {s:ByteArray} (h:¬ NameP s):nameB s=false:=by simp [nameB,h]
theorem isLetter_any (c:UInt8) (w:World):Calls Tryz.prog 47 #[.int .u8 (c.toNat:Int)] w fun e w'=>e=.returned (.bool (isL c))/\w'=w:=by
 go_enter Tryz.func47,Tryz.ntmps47;go_wp2
 all_goals go_ret
 all_goals (refine ⟨ret_bool ?_,rfl⟩;rw [Bool.eq_iff_iff];simp_all [isL] <;> omega)
theorem isNameByte_any (c:UInt8) (w:World):Calls Tryz.prog 48 #[.int .u8 (c.toNat:Int)] w fun e w'=>e=.returned (.bool (isN c))/\w'=w:=by
 go_enter Tryz.func48,Tryz.ntmps48;go_wp2_with (first | (go_at_call 47;refine (isLetter_any _ _).mono ?_;rintro e w' ⟨rfl,rfl⟩))
 all_goals go_ret
 all_goals (refine ⟨ret_bool ?_,rfl⟩;rw [Bool.eq_iff_iff];simp_all [isN,isD] <;> omega)
theorem rletter_any (c:UInt8) (w:World):Calls Tryz.prog 39 #[.int .u8 (c.toNat:Int)] w fun e w'=>e=.returned (.bool (isL c))/\w'=w:=by
 go_enter Tryz.func39,Tryz.ntmps39;go_wp2
 all_goals go_ret
 all_goals (refine ⟨ret_bool ?_,rfl⟩;rw [Bool.eq_iff_iff];simp_all [isL] <;> omega)
theorem name_any (s:ByteArray) (w:World) (hs:s.size < 2 ^ 62) :
  Calls Tryz.prog 33 #[.string s] w fun e w'=>e=.returned (.bool (nameB s))/\w'=w:=by
 obtain ⟨R,hR⟩:∃R,R=nameB s:=⟨_,rfl⟩;have HR:Hd (R=nameB s):=hR;rw [<-hR];clear hR
 by_cases h0:s.size=0
 ·have HN:Hd (R=false):=HR.o.trans (nameB_f fun h=>absurd h.1 (by omega));go_enter Tryz.func33,Tryz.ntmps33;go_wp2;go_ret;exact ⟨ret_bool HN.o.symm,rfl⟩
 by_cases h30:30 < s.size
 ·have HN:Hd (R=false):=HR.o.trans (nameB_f fun h=>absurd h.2.1 (by omega));have h1:¬ s.size < 1:=by omega
  go_enter Tryz.func33,Tryz.ntmps33;go_wp2;go_ret;exact ⟨ret_bool HN.o.symm,rfl⟩
 have hpos:0 < s.size:=by omega
 have g1:((s.size:Int) == 0)=false:=by rw [beq_eq_false_iff_ne];omega
 have g2:decide (30 < (s.size:Int))=false:=by rw [decide_eq_false_iff_not];omega
 have g3:decide ((s.size:Int) < 1)=false:=by rw [decide_eq_false_iff_not];omega
 cases hl:isL s[0] with
 | false =>
  have HN:Hd (R=false):=HR.o.trans (nameB_f fun h=>by have:=h.2.2.1 hpos;rw [hl] at this;cases this);go_enter Tryz.func33,Tryz.ntmps33;go_wp2_with (first | (go_at_call 47;refine (isLetter_any _ _).mono ?_;rintro e w' ⟨rfl,rfl⟩) | (go_at_call 48;refine (isNameByte_any _ _).mono ?_;rintro e w' ⟨rfl,rfl⟩));go_ret;exact ⟨ret_bool HN.o.symm,rfl⟩
 | true =>
  go_enter Tryz.func33,Tryz.ntmps33;go_wp2_with (first | (go_at_call 47;refine (isLetter_any _ _).mono ?_;rintro e w' ⟨rfl,rfl⟩) | (go_at_call 48;refine (isNameByte_any _ _).mono ?_;rintro e w' ⟨rfl,rfl⟩))
  go_loop [3] (fun i=>∃k:Nat,1<=k/\k<=s.size/\i=.int .i64 k/\∀j,(hj:j < s.size)->j < k->1<=j->isN s[j]=true) (fun i=>s.size - (intOf i).toNat)
  case atStart=>exact ⟨1,Nat.le_refl _,by omega,rfl,fun j hj h h'=>absurd h (by omega)⟩
  case round =>
   obtain ⟨k,hk1,hk,rfl,hp⟩:=hrel;have HP:Hd (∀j,(hj:j < s.size)->j < k->1<=j->isN s[j]=true):=hp;clear hp;clear g1 g2 g3
   by_cases hlt:k < s.size
   ·cases hd:isN s[k] with
    | true =>
     go_wp2_with (first | (go_at_call 47;refine (isLetter_any _ _).mono ?_;rintro e w' ⟨rfl,rfl⟩) | (go_at_call 48;refine (isNameByte_any _ _).mono ?_;rintro e w' ⟨rfl,rfl⟩))
     all_goals go_round
     case rel =>
      refine ⟨k+1,by omega,by omega,by go_num,fun j hj hjk hj1=>?_⟩
      by_cases hjk':j < k
      ·exact HP.o j hj hjk' hj1
      ·have e:j=k:=by omega
       subst e;exact hd
     case measure=>simp [intOf];omega
    | false =>
     have HN:Hd (R=false):=HR.o.trans (nameB_f fun h=>by have:=h.2.2.2 k hlt hk1;rw [hd] at this;cases this);go_wp2_with (first | (go_at_call 47;refine (isLetter_any _ _).mono ?_;rintro e w' ⟨rfl,rfl⟩) | (go_at_call 48;refine (isNameByte_any _ _).mono ?_;rintro e w' ⟨rfl,rfl⟩));go_ret;exact ⟨ret_bool HN.o.symm,rfl⟩
   ·have HN:Hd (R=true):=HR.o.trans (nameB_t ⟨by omega,by omega,fun _=>hl,fun j hj h=>HP.o j hj (by omega) h⟩);clear hk;go_wp2;go_ret;exact ⟨ret_bool HN.o.symm,rfl⟩
theorem rname_any (s:ByteArray) (w:World) (hs:s.size < 2 ^ 62) :
  Calls Tryz.prog 26 #[.string s] w fun e w'=>e=.returned (.bool (nameB s))/\w'=w:=by
 obtain ⟨R,hR⟩:∃R,R=nameB s:=⟨_,rfl⟩;have HR:Hd (R=nameB s):=hR;rw [<-hR];clear hR
 by_cases h0:s.size=0
 ·have HN:Hd (R=false):=HR.o.trans (nameB_f fun h=>absurd h.1 (by omega));go_enter Tryz.func26,Tryz.ntmps26;go_wp2;go_ret;exact ⟨ret_bool HN.o.symm,rfl⟩
 by_cases h30:30 < s.size
 ·have HN:Hd (R=false):=HR.o.trans (nameB_f fun h=>absurd h.2.1 (by omega));have h1:¬ s.size < 1:=by omega
  go_enter Tryz.func26,Tryz.ntmps26;go_wp2;go_ret;exact ⟨ret_bool HN.o.symm,rfl⟩
 have hpos:0 < s.size:=by omega
 have g1:((s.size:Int) == 0)=false:=by rw [beq_eq_false_iff_ne];omega
 have g2:decide (30 < (s.size:Int))=false:=by rw [decide_eq_false_iff_not];omega
 have g3:decide ((s.size:Int) < 1)=false:=by rw [decide_eq_false_iff_not];omega
 cases hl:isL s[0] with
 | false =>
  have HN:Hd (R=false):=HR.o.trans (nameB_f fun h=>by have:=h.2.2.1 hpos;rw [hl] at this;cases this);go_enter Tryz.func26,Tryz.ntmps26;go_wp2_with (first | (go_at_call 39;refine (rletter_any _ _).mono ?_;rintro e w' ⟨rfl,rfl⟩) | (go_at_call 40;refine (rdigit_any _ _).mono ?_;rintro e w' ⟨rfl,rfl⟩));go_ret;exact ⟨ret_bool HN.o.symm,rfl⟩
 | true =>
  go_enter Tryz.func26,Tryz.ntmps26;go_wp2_with (first | (go_at_call 39;refine (rletter_any _ _).mono ?_;rintro e w' ⟨rfl,rfl⟩) | (go_at_call 40;refine (rdigit_any _ _).mono ?_;rintro e w' ⟨rfl,rfl⟩))
  go_loop [3] (fun i=>∃k:Nat,1<=k/\k<=s.size/\i=.int .i64 k/\∀j,(hj:j < s.size)->j < k->1<=j->isN s[j]=true) (fun i=>s.size - (intOf i).toNat)
  case atStart=>exact ⟨1,Nat.le_refl _,by omega,rfl,fun j hj h h'=>absurd h (by omega)⟩
  case round =>
   obtain ⟨k,hk1,hk,rfl,hp⟩:=hrel;have HP:Hd (∀j,(hj:j < s.size)->j < k->1<=j->isN s[j]=true):=hp;clear hp;clear g1 g2 g3
   by_cases hlt:k < s.size
   ·cases hd:isN s[k] with
    | true =>
     rcases Bool.eq_false_or_eq_true (isL s[k]) with a1 | a1
     ·go_wp2_with (first | (go_at_call 39;refine (rletter_any _ _).mono ?_;rintro e w' ⟨rfl,rfl⟩) | (go_at_call 40;refine (rdigit_any _ _).mono ?_;rintro e w' ⟨rfl,rfl⟩))
      go_round
      case rel =>
       refine ⟨k+1,by omega,by omega,by go_num,fun j hj hjk hj1=>?_⟩
       by_cases hjk':j < k
       ·exact HP.o j hj hjk' hj1
       ·have e:j=k:=by omega
        subst e;exact hd
      case measure=>simp [intOf];omega
     rcases Bool.eq_false_or_eq_true (isD s[k]) with a2 | a2
     ·go_wp2_with (first | (go_at_call 39;refine (rletter_any _ _).mono ?_;rintro e w' ⟨rfl,rfl⟩) | (go_at_call 40;refine (rdigit_any _ _).mono ?_;rintro e w' ⟨rfl,rfl⟩))
      go_round
      case rel =>
       refine ⟨k+1,by omega,by omega,by go_num,fun j hj hjk hj1=>?_⟩
       by_cases hjk':j < k
       ·exact HP.o j hj hjk' hj1
       ·have e:j=k:=by omega
        subst e;exact hd
      case measure=>simp [intOf];omega
     by_cases a3:s[k].toNat=45
     ·have b3:((s[k].toNat:Int) != 45)=false:=by rw [a3];rfl
      have b5:((s[k].toNat:Int) != 95)=true:=by rw [a3];rfl
      clear a3;go_wp2_with (first | (go_at_call 39;refine (rletter_any _ _).mono ?_;rintro e w' ⟨rfl,rfl⟩) | (go_at_call 40;refine (rdigit_any _ _).mono ?_;rintro e w' ⟨rfl,rfl⟩))
      go_round
      case rel =>
       refine ⟨k+1,by omega,by omega,by go_num,fun j hj hjk hj1=>?_⟩
       by_cases hjk':j < k
       ·exact HP.o j hj hjk' hj1
       ·have e:j=k:=by omega
        subst e;exact hd
      case measure=>simp [intOf];omega
     ·have b3:((s[k].toNat:Int) != 45)=true:=by rw [bne_iff_ne];omega
      have b4:((s[k].toNat:Int) != 95)=false:=by unfold isN at hd;simp [a1,a2,a3] at hd;rw [hd];rfl
      clear a3;go_wp2_with (first | (go_at_call 39;refine (rletter_any _ _).mono ?_;rintro e w' ⟨rfl,rfl⟩) | (go_at_call 40;refine (rdigit_any _ _).mono ?_;rintro e w' ⟨rfl,rfl⟩))
      go_round
      case rel =>
       refine ⟨k+1,by omega,by omega,by go_num,fun j hj hjk hj1=>?_⟩
       by_cases hjk':j < k
       ·exact HP.o j hj hjk' hj1
       ·have e:j=k:=by omega
        subst e;exact hd
      case measure=>simp [intOf];omega
    | false =>
     have HN:Hd (R=false):=HR.o.trans (nameB_f fun h=>by have:=h.2.2.2 k hlt hk1;rw [hd] at this;cases this);obtain ⟨a1,a2,a3,a4⟩:isL s[k]=false/\isD s[k]=false/\¬ s[k].toNat=45/\¬ s[k].toNat=95:=by
      unfold isN at hd;simpa [and_assoc] using hd
     have b3:((s[k].toNat:Int) != 45)=true:=by rw [bne_iff_ne];omega
     have b4:((s[k].toNat:Int) != 95)=true:=by rw [bne_iff_ne];omega
     clear a3 a4;go_wp2_with (first | (go_at_call 39;refine (rletter_any _ _).mono ?_;rintro e w' ⟨rfl,rfl⟩) | (go_at_call 40;refine (rdigit_any _ _).mono ?_;rintro e w' ⟨rfl,rfl⟩));go_ret;exact ⟨ret_bool HN.o.symm,rfl⟩
   ·have HN:Hd (R=true):=HR.o.trans (nameB_t ⟨by omega,by omega,fun _=>hl,fun j hj h=>HP.o j hj (by omega) h⟩);clear hk;go_wp2;go_ret;exact ⟨ret_bool HN.o.symm,rfl⟩
open Go.RowKit
def hitB (name v:ByteArray) (x:Re):Bool:=decide (x.nm=name) && togB x.ve v
def findI (name v:ByteArray):List Re->Nat->Int
 | [],_=>-1
 | x :: r,k=>if hitB name v x=true then (k:Int) else findI name v r (k+1)
theorem txt_eq {a b:ByteArray} (h:a=b):(a.toList == b.toList)=true:=by rw [h];simp
theorem txt_ne {a b:ByteArray} (h:¬ a=b):(a.toList == b.toList)=false:=by
 cases hb:(a.toList == b.toList) with
 | false=>rfl
 | true =>
  exfalso;apply h;have h2:a.toList=b.toList:=by simpa using hb
  rw [Lib.toList_data,Lib.toList_data] at h2;apply ByteArray.ext;exact Array.ext' h2
open Go.RowKit
def okR (s:ByteArray):Bool:=decide ((rdRange s.data.toList).1=0)
noncomputable def goodN (x:Nd):Bool:=nameB x.n && okR x.r
noncomputable def wrongN (L:List Nd):Int:=if L.all goodN=true then (if twTo L L.length=true then 5 else 0) else 2
theorem wrong_text (L:List Nd) (i:Nat) (hi:i < L.length) (h:goodN L[i]=false):wrongN L=2:=by
 unfold wrongN;rw [if_neg];intro ha;have:=List.all_eq_true.1 ha L[i] (List.getElem_mem _);rw [h] at this
 cases this
theorem all_step (L:List Nd) (i:Nat) (hi:i < L.length) (h:goodN L[i]=true) (h0:(L.take i).all goodN=true):(L.take (i+1)).all goodN=true:=by
 rw [List.take_succ_eq_append_getElem hi,List.all_append,h0];simp [h]
theorem wrong_twice (L:List Nd) (h:L.all goodN=true) (h2:twTo L L.length=true):wrongN L=5:=by unfold wrongN;rw [if_pos h,if_pos h2]
theorem wrong_not (L:List Nd) (h:L.all goodN=true) (h2:twTo L L.length=false):wrongN L=0:=by unfold wrongN;rw [if_pos h,if_neg (by rw [h2];simp)]
theorem wrong_one (L:List Nd):wrongN L=0\/wrongN L=2\/wrongN L=5:=by
 unfold wrongN
 repeat' split
 all_goals simp
noncomputable def faultR (i:Nat) (P:List Re) (x:Re):Int :=
 if 50<=i\/20 < x.nd.length then 4
 else if nameB x.nm=false\/okV x.ve=false\/wrongN x.nd=2 then 2
 else if wrongN x.nd=5\/P.any (hitB x.nm x.ve)=true then 5 else 0
theorem find_any_iff (name v:ByteArray):∀(l:List Re) (k:Nat),(0<=findI name v l k ↔ l.any (hitB name v)=true)
 | [],k=>by simp [findI]
 | x :: r,k=>by
  rw [findI,List.any_cons];split
  ·rename_i h;rw [h];simp
  ·rename_i h;rw [find_any_iff name v r (k+1)];simp [h]
noncomputable def faultL (L:List Re) (i:Nat):Int:=match L[i]? with | some x=>faultR i (L.take i) x | none=>0
theorem faultL_at (L:List Re) (i:Nat) (hi:i < L.length):faultL L i=faultR i (L.take i) L[i]:=by simp [faultL,List.getElem?_eq_getElem hi]
noncomputable def chkFrom (L:List Re):Nat->Int × Nat
 | 0=>(0,0)
 | n+1=>if faultL L (L.length - (n+1))=0 then chkFrom L n else (faultL L (L.length - (n+1)),L.length - (n+1))
theorem chk_hit (L:List Re) (i:Nat) (hi:i < L.length) (h:¬ faultL L i=0):chkFrom L (L.length - i)=(faultL L i,i):=by
 obtain ⟨n,hn⟩:∃n,L.length - i=n+1:=⟨L.length - i - 1,by omega⟩;rw [hn,chkFrom,show L.length - (n+1)=i by omega,if_neg h]
theorem chk_miss (L:List Re) (i:Nat) (hi:i < L.length) (h:faultL L i=0):chkFrom L (L.length - i)=chkFrom L (L.length - (i+1)):=by
 obtain ⟨n,hn⟩:∃n,L.length - i=n+1:=⟨L.length - i - 1,by omega⟩;rw [hn,chkFrom,show L.length - (n+1)=i by omega,if_pos h,show L.length - (i+1)=n by omega]
open Go.RowKit
def GR (g b:Nat) (w:World):Prop:=w.cell? ⟨g,0,none⟩=some (.pointer (some ⟨b,0,none⟩))
theorem GR.drew {g b:Nat} {w:World} (h:GR g b w) (n:Nat):GR g b (w.drewN n):=h
theorem GR.growb {g b q:Nat} {w w':World} (h:GR g b w) (hg:w.grownBy w' (some q)) (hn:g ≠ q):GR g b w':=hg.cell h (by simpa using hn)
theorem GR.grow {g b:Nat} {w w':World} (h:GR g b w) (hg:w.grownBy w' none):GR g b w':=hg.cell h (by simp)
theorem GR.other {g b v:Nat} {w:World} (h:GR g b w) (hn:g ≠ v) (o:Nat) (x:Value):GR g b (w.setCell ⟨v,o,none⟩ x):=by
 unfold GR at h ⊢;unfold World.cell? at h ⊢;rw [heap_setCell_other w _ g x (by simpa using hn)];exact h
theorem prefix_take:∀(l t:List UInt8),Lib.hasPrefix l t=(decide (t.length<=l.length) && (l.take t.length == t))
 | l,[]=>by cases l <;> simp [Lib.hasPrefix]
 | [],c :: t=>by simp [Lib.hasPrefix]
 | x :: l,c :: t=>by
  show (c == x && Lib.hasPrefix l t)=_;rw [prefix_take l t];simp only [List.length_cons,List.take_succ_cons,Nat.add_le_add_iff_right];rw [Bool.eq_iff_iff];simp only [Bool.and_eq_true,beq_iff_eq,decide_eq_true_eq,List.cons.injEq];constructor
  ·rintro ⟨h1,h2,h3⟩;exact ⟨h2,h1.symm,h3⟩
  ·rintro ⟨h2,h1,h3⟩;exact ⟨h1.symm,h2,h3⟩
theorem prefix_fits (l t:List UInt8) (i:Nat) (h:i+t.length<=l.length):Lib.hasPrefix (l.drop i) t=(subT l i t.length == t):=by
 rw [prefix_take];unfold subT;rw [decide_eq_true (by rw [List.length_drop];omega),Bool.true_and]
theorem prefix_long (l t:List UInt8) (i:Nat) (h:¬ i+t.length<=l.length) (hi:i<=l.length):Lib.hasPrefix (l.drop i) t=false:=by
 rw [prefix_take,decide_eq_false (by rw [List.length_drop];omega),Bool.false_and]
theorem toList_eq (a b:ByteArray):(a.toList == b.toList)=(a.data.toList == b.data.toList):=by rw [Go.Lib.toList_data,Go.Lib.toList_data]
set_option maxRecDepth 100000 in
theorem is_late (g b:Nat) (s t:ByteArray) (i:Nat) (E:Int) (a:Nat) (w:World) (hE:¬ E=0) (hg:GR g b w) (h:VS b s i E a w) :
  Calls Tryz.prog 63 #[.pointer (some ⟨g,0,none⟩),.string t] w fun e w'=>e=.returned (.bool false)/\∃n,w'=w.drewN n:=by
 have h0:=h.c0;have h1:=h.c1;have h2:=h.c2;have hn:(E == 0)=false:=by simpa using hE
 have g0:w.cell? ⟨g,0,none⟩=some (.pointer (some ⟨b,0,none⟩)):=hg;clear h hg hE;go_enter Tryz.func63,Tryz.ntmps63;go_wp2;go_quiet (fail);go_wp2;go_ret;exact ⟨rfl,_,rfl⟩
set_option maxRecDepth 100000 in
theorem is_any (g b:Nat) (s t:ByteArray) (i:Nat) (a:Nat) (w:World) (hi:i<=s.size) (hg:GR g b w) (h:VS b s i 0 a w) (hs:s.size < 2 ^ 61) (ht:t.size < 2 ^ 61) :
  Calls Tryz.prog 63 #[.pointer (some ⟨g,0,none⟩),.string t] w fun e w'=>e=.returned (.bool (Lib.hasPrefix (s.data.toList.drop i) t.data.toList))/\∃n,w'=w.drewN n:=by
 have h0:=h.c0;have h1:=h.c1;have h2:=h.c2;have g0:w.cell? ⟨g,0,none⟩=some (.pointer (some ⟨b,0,none⟩)):=hg;have hw:IntKind.i64.wrap ((i:Int)+(t.size:Int))=(i:Int)+(t.size:Int):=by rw [IntKind.wrap_i64];omega
 clear h hg
 by_cases hf:i+t.size<=s.size
 ·have hle:decide ((i:Int)+(t.size:Int)<=(s.size:Int))=true:=by simp;omega
  obtain ⟨X,hX⟩:∃X:ByteArray,X=⟨(subT s.data.toList i t.size).toArray⟩:=⟨_,rfl⟩;have sl:∀wx,(Instr.slice 9 (.string s) (some (.int .i64 (i:Int))) (some (.int .i64 ((i:Int)+(t.size:Int)))) none).run Tryz.prog wx=.ok (.string X) wx:=fun wx=>by
   rw [hX];have:=run_sub s i (i+t.size) (by omega) hf wx;rw [show i+t.size - i=t.size by omega,show ((i+t.size:Nat):Int)=(i:Int)+(t.size:Int) by omega] at this;exact this
  have hp:=prefix_fits s.data.toList t.data.toList i (by simpa using hf);obtain ⟨r,hr⟩:=nm ((X.toList == t.toList));have HP:Hd (Lib.hasPrefix (s.data.toList.drop i) t.data.toList=r):=by
   show _=_;rw [hp,<-hr,toList_eq,hX];simp
  rw [HP.o];clear hX hp hf hi hs ht
  cases r with
  | true =>
   go_enter Tryz.func63,Tryz.ntmps63;go_wp2;go_quiet (fail);go_wp2;go_ret;exact ⟨rfl,_,rfl⟩
  | false =>
   go_enter Tryz.func63,Tryz.ntmps63;go_wp2;go_quiet (fail);go_wp2;go_ret;exact ⟨rfl,_,rfl⟩
 ·have hle:decide ((i:Int)+(t.size:Int)<=(s.size:Int))=false:=by simp;omega
  have HP:Hd (Lib.hasPrefix (s.data.toList.drop i) t.data.toList=false):=prefix_long s.data.toList t.data.toList i (by simpa using hf) (by simpa using hi);rw [HP.o];clear hf hi hs ht;go_enter Tryz.func63,Tryz.ntmps63;go_wp2;go_quiet (fail);go_wp2;go_ret;exact ⟨rfl,_,rfl⟩
end Go.Proofs.YticgahdffjnabaaGreatDoor
