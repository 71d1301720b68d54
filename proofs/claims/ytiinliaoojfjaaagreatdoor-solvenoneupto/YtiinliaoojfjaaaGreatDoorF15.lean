import Derived.Test.YtiinliaoojfjaaaGreatDoorF01
set_option linter.all false
set_option maxRecDepth 100000
set_option maxHeartbeats 0
open Go.Proofs.Tryz
namespace Go.Proofs.YtiinliaoojfjaaaGreatDoor
open Go.RowKit
def um(c:UInt8):Bool:=decide (97<=c.toNat/\c.toNat<=122)
def vM(c:UInt8):Bool:=um c || aP c || decide (c.toNat=45) || decide (c.toNat=95)
def Lj(s:ByteArray):Prop:=1<=s.size/\s.size<=30/\(∀h:0<s.size,um s[0]=true)/\∀j,(hj:j<s.size)->1<=j->vM s[j]=true
open Classical in
noncomputable def nameB(s:ByteArray):Bool:=decide (Lj s)
theorem Tt{s:ByteArray}(h:Lj s):nameB s=true:=by simp[nameB,h]
theorem vN{s:ByteArray}(h:¬Lj s):nameB s=false:=by simp[nameB,h]
theorem EJ(c:UInt8)(w:World):Calls prog 113 #[.int .u8 (c.toNat:Int)] w fun e w'=>e=.returned (.bool (um c))/\w'=w:=by
 go_enter func113,ntmps113;go_wp2
 all_goals go_ret
 all_goals (refine⟨bi ?_,rfl⟩;rw[Bool.eq_iff_iff];simp_all [um]<;>omega)
theorem Hz(c:UInt8)(w:World):Calls prog 114 #[.int .u8 (c.toNat:Int)] w fun e w'=>e=.returned (.bool (vM c))/\w'=w:=by
 go_enter func114,ntmps114;go_wp2_with (go_at_call 113;refine(EJ _ _).mono ?_;rintro e w' ⟨rfl,rfl⟩)
 all_goals go_ret
 all_goals (refine⟨bi ?_,rfl⟩;rw[Bool.eq_iff_iff];simp_all [vM,aP]<;>omega)
theorem zk(c:UInt8)(w:World):Calls prog 71 #[.int .u8 (c.toNat:Int)] w fun e w'=>e=.returned (.bool (um c))/\w'=w:=by
 go_enter func71,ntmps71;go_wp2
 all_goals go_ret
 all_goals (refine⟨bi ?_,rfl⟩;rw[Bool.eq_iff_iff];simp_all [um]<;>omega)
theorem name_any(s:ByteArray)(w:World)(hs:s.size<2 ^ 62) :
  Calls prog 85 #[.string s] w fun e w'=>e=.returned (.bool (nameB s))/\w'=w:=by
 obtain⟨R,hR⟩:∃R,R=nameB s:=⟨_,rfl⟩;have HR:=ae hR;rw[<-hR];clear hR
 by_cases h0:s.size=0
 ·have HN:=ae (HR.o.trans (vN fun h=>absurd h.1 (by omega)));go_enter func85,ntmps85;go_wp2;go_ret;exact⟨bi HN.o.symm,rfl⟩
 by_cases h30:30<s.size
 ·have HN:=ae (HR.o.trans (vN fun h=>absurd h.2.1 (by omega)));have h1:¬s.size<1:=by omega
  go_enter func85,ntmps85;go_wp2;go_ret;exact⟨bi HN.o.symm,rfl⟩
 have hpos:0<s.size:=by omega
 have g1:((s.size:Int) == 0)=false:=by rw[beq_eq_false_iff_ne];omega
 have g2:decide (30<(s.size:Int))=false:=by rw[decide_eq_false_iff_not];omega
 have g3:decide ((s.size:Int)<1)=false:=by rw[decide_eq_false_iff_not];omega
 cases hl:um s[0] with
 | false =>
  have HN:=ae (HR.o.trans (vN fun h=>by have:=h.2.2.1 hpos;rw[hl]at this;cases this));go_enter func85,ntmps85;go_wp2_with (first|(go_at_call 113;refine(EJ _ _).mono ?_;rintro e w' ⟨rfl,rfl⟩)|(go_at_call 114;refine(Hz _ _).mono ?_;rintro e w' ⟨rfl,rfl⟩));go_ret;exact⟨bi HN.o.symm,rfl⟩
 | true =>
  go_enter func85,ntmps85;go_wp2_with (first|(go_at_call 113;refine(EJ _ _).mono ?_;rintro e w' ⟨rfl,rfl⟩)|(go_at_call 114;refine(Hz _ _).mono ?_;rintro e w' ⟨rfl,rfl⟩))
  go_loop [3] (fun i=>∃k:Nat,1<=k/\k<=s.size/\i=.int .i64 k/\∀j,(hj:j<s.size)->j<k->1<=j->vM s[j]=true) (fun i=>s.size-(intOf i).toNat)
  case atStart=>exact⟨1,Nat.le_refl _,by omega,rfl,fun j hj h h'=>absurd h (by omega)⟩
  case round =>
   obtain⟨k,hk1,hk,rfl,hp⟩:=hrel;have HP:=ae hp;clear hp;clear g1 g2 g3
   by_cases hlt:k<s.size
   ·cases hd:vM s[k] with
    | true =>
     go_wp2_with (first|(go_at_call 113;refine(EJ _ _).mono ?_;rintro e w' ⟨rfl,rfl⟩)|(go_at_call 114;refine(Hz _ _).mono ?_;rintro e w' ⟨rfl,rfl⟩))
     all_goals go_round
     case rel =>
      refine⟨k+1,by omega,by omega,by go_num,fun j hj hjk hj1=>?_⟩
      by_cases hjk':j<k
      ·exact HP.o j hj hjk' hj1
      ·have e:j=k:=by omega
       subst e;exact hd
     case measure=>simp[intOf];omega
    | false =>
     have HN:=ae (HR.o.trans (vN fun h=>by have:=h.2.2.2 k hlt hk1;rw[hd]at this;cases this));go_wp2_with (first|(go_at_call 113;refine(EJ _ _).mono ?_;rintro e w' ⟨rfl,rfl⟩)|(go_at_call 114;refine(Hz _ _).mono ?_;rintro e w' ⟨rfl,rfl⟩));go_ret;exact⟨bi HN.o.symm,rfl⟩
   ·have HN:=ae (HR.o.trans (Tt ⟨by omega,by omega,fun _=>hl,fun j hj h=>HP.o j hj (by omega) h⟩));clear hk;go_wp2;go_ret;exact⟨bi HN.o.symm,rfl⟩
theorem Tu(s:ByteArray)(w:World)(hs:s.size<2 ^ 62) :
  Calls prog 39 #[.string s] w fun e w'=>e=.returned (.bool (nameB s))/\w'=w:=by
 obtain⟨R,hR⟩:∃R,R=nameB s:=⟨_,rfl⟩;have HR:=ae hR;rw[<-hR];clear hR
 by_cases h0:s.size=0
 ·have HN:=ae (HR.o.trans (vN fun h=>absurd h.1 (by omega)));go_enter func39,ntmps39;go_wp2;go_ret;exact⟨bi HN.o.symm,rfl⟩
 by_cases h30:30<s.size
 ·have HN:=ae (HR.o.trans (vN fun h=>absurd h.2.1 (by omega)));have h1:¬s.size<1:=by omega
  go_enter func39,ntmps39;go_wp2;go_ret;exact⟨bi HN.o.symm,rfl⟩
 have hpos:0<s.size:=by omega
 have g1:((s.size:Int) == 0)=false:=by rw[beq_eq_false_iff_ne];omega
 have g2:decide (30<(s.size:Int))=false:=by rw[decide_eq_false_iff_not];omega
 have g3:decide ((s.size:Int)<1)=false:=by rw[decide_eq_false_iff_not];omega
 cases hl:um s[0] with
 | false =>
  have HN:=ae (HR.o.trans (vN fun h=>by have:=h.2.2.1 hpos;rw[hl]at this;cases this));go_enter func39,ntmps39;go_wp2_with (first|(go_at_call 71;refine(zk _ _).mono ?_;rintro e w' ⟨rfl,rfl⟩)|(go_at_call 72;refine(mJ _ _).mono ?_;rintro e w' ⟨rfl,rfl⟩));go_ret;exact⟨bi HN.o.symm,rfl⟩
 | true =>
  go_enter func39,ntmps39;go_wp2_with (first|(go_at_call 71;refine(zk _ _).mono ?_;rintro e w' ⟨rfl,rfl⟩)|(go_at_call 72;refine(mJ _ _).mono ?_;rintro e w' ⟨rfl,rfl⟩))
  go_loop [3] (fun i=>∃k:Nat,1<=k/\k<=s.size/\i=.int .i64 k/\∀j,(hj:j<s.size)->j<k->1<=j->vM s[j]=true) (fun i=>s.size-(intOf i).toNat)
  case atStart=>exact⟨1,Nat.le_refl _,by omega,rfl,fun j hj h h'=>absurd h (by omega)⟩
  case round =>
   obtain⟨k,hk1,hk,rfl,hp⟩:=hrel;have HP:=ae hp;clear hp;clear g1 g2 g3
   by_cases hlt:k<s.size
   ·cases hd:vM s[k] with
    | true =>
     rcases Bool.eq_false_or_eq_true (um s[k]) with a1|a1
     ·go_wp2_with (first|(go_at_call 71;refine(zk _ _).mono ?_;rintro e w' ⟨rfl,rfl⟩)|(go_at_call 72;refine(mJ _ _).mono ?_;rintro e w' ⟨rfl,rfl⟩))
      go_round
      case rel =>
       refine⟨k+1,by omega,by omega,by go_num,fun j hj hjk hj1=>?_⟩
       by_cases hjk':j<k
       ·exact HP.o j hj hjk' hj1
       ·have e:j=k:=by omega
        subst e;exact hd
      case measure=>simp[intOf];omega
     rcases Bool.eq_false_or_eq_true (aP s[k]) with a2|a2
     ·go_wp2_with (first|(go_at_call 71;refine(zk _ _).mono ?_;rintro e w' ⟨rfl,rfl⟩)|(go_at_call 72;refine(mJ _ _).mono ?_;rintro e w' ⟨rfl,rfl⟩))
      go_round
      case rel =>
       refine⟨k+1,by omega,by omega,by go_num,fun j hj hjk hj1=>?_⟩
       by_cases hjk':j<k
       ·exact HP.o j hj hjk' hj1
       ·have e:j=k:=by omega
        subst e;exact hd
      case measure=>simp[intOf];omega
     by_cases a3:s[k].toNat=45
     ·have b3:((s[k].toNat:Int) != 45)=false:=by rw[a3];rfl
      have b5:((s[k].toNat:Int) != 95)=true:=by rw[a3];rfl
      clear a3;go_wp2_with (first|(go_at_call 71;refine(zk _ _).mono ?_;rintro e w' ⟨rfl,rfl⟩)|(go_at_call 72;refine(mJ _ _).mono ?_;rintro e w' ⟨rfl,rfl⟩))
      go_round
      case rel =>
       refine⟨k+1,by omega,by omega,by go_num,fun j hj hjk hj1=>?_⟩
       by_cases hjk':j<k
       ·exact HP.o j hj hjk' hj1
       ·have e:j=k:=by omega
        subst e;exact hd
      case measure=>simp[intOf];omega
     ·have b3:((s[k].toNat:Int) != 45)=true:=by rw[bne_iff_ne];omega
      have b4:((s[k].toNat:Int) != 95)=false:=by unfold vM at hd;simp[a1,a2,a3]at hd;rw[hd];rfl
      clear a3;go_wp2_with (first|(go_at_call 71;refine(zk _ _).mono ?_;rintro e w' ⟨rfl,rfl⟩)|(go_at_call 72;refine(mJ _ _).mono ?_;rintro e w' ⟨rfl,rfl⟩))
      go_round
      case rel =>
       refine⟨k+1,by omega,by omega,by go_num,fun j hj hjk hj1=>?_⟩
       by_cases hjk':j<k
       ·exact HP.o j hj hjk' hj1
       ·have e:j=k:=by omega
        subst e;exact hd
      case measure=>simp[intOf];omega
    | false =>
     have HN:=ae (HR.o.trans (vN fun h=>by have:=h.2.2.2 k hlt hk1;rw[hd]at this;cases this));obtain⟨a1,a2,a3,a4⟩:um s[k]=false/\aP s[k]=false/\¬s[k].toNat=45/\¬s[k].toNat=95:=by
      unfold vM at hd;simpa [and_assoc] using hd
     have b3:((s[k].toNat:Int) != 45)=true:=by rw[bne_iff_ne];omega
     have b4:((s[k].toNat:Int) != 95)=true:=by rw[bne_iff_ne];omega
     clear a3 a4;go_wp2_with (first|(go_at_call 71;refine(zk _ _).mono ?_;rintro e w' ⟨rfl,rfl⟩)|(go_at_call 72;refine(mJ _ _).mono ?_;rintro e w' ⟨rfl,rfl⟩));go_ret;exact⟨bi HN.o.symm,rfl⟩
   ·have HN:=ae (HR.o.trans (Tt ⟨by omega,by omega,fun _=>hl,fun j hj h=>HP.o j hj (by omega) h⟩));clear hk;go_wp2;go_ret;exact⟨bi HN.o.symm,rfl⟩
end Go.Proofs.YtiinliaoojfjaaaGreatDoor
