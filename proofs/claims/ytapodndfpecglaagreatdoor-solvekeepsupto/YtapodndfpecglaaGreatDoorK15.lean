import Derived.Test.YtapodndfpecglaaGreatDoorK01
set_option linter.all false
set_option maxRecDepth 100000
set_option maxHeartbeats 0
open Go.Proofs.Tryz
namespace Go.Proofs.YtapodndfpecglaaGreatDoor
open Go.RowKit
def qC(c:UInt8):Bool:=decide (97<=c.toNat/\c.toNat<=122)
def sD(c:UInt8):Bool:=qC c || aN c || decide (c.toNat=45) || decide (c.toNat=95)
def H6(s:ByteArray):Prop:=1<=s.size/\s.size<=30/\(∀h:0<s.size,qC s[0]=true)/\∀j,(hj:j<s.size)->1<=j->sD s[j]=true
open Classical in
noncomputable def nameB(s:ByteArray):Bool:=decide (H6 s)
theorem OD{s:ByteArray}(h:H6 s):nameB s=true:=by simp[nameB,h]
theorem sF{s:ByteArray}(h:¬H6 s):nameB s=false:=by simp[nameB,h]
theorem Bg(c:UInt8)(w:World):Calls prog 79 #[.int .u8 (c.toNat:Int)] w fun e w'=>e=.returned (.bool (qC c))/\w'=w:=by
 go_enter func79,ntmps79;go_wp2
 all_goals go_ret
 all_goals (refine⟨bn ?_,rfl⟩;rw[Bool.eq_iff_iff];simp_all [qC]<;>omega)
theorem Ef(c:UInt8)(w:World):Calls prog 80 #[.int .u8 (c.toNat:Int)] w fun e w'=>e=.returned (.bool (sD c))/\w'=w:=by
 go_enter func80,ntmps80;go_wp2_with (go_at_call 79;refine(Bg _ _).mono ?_;rintro e w' ⟨rfl,rfl⟩)
 all_goals go_ret
 all_goals (refine⟨bn ?_,rfl⟩;rw[Bool.eq_iff_iff];simp_all [sD,aN]<;>omega)
theorem wP(c:UInt8)(w:World):Calls prog 42 #[.int .u8 (c.toNat:Int)] w fun e w'=>e=.returned (.bool (qC c))/\w'=w:=by
 go_enter func42,ntmps42;go_wp2
 all_goals go_ret
 all_goals (refine⟨bn ?_,rfl⟩;rw[Bool.eq_iff_iff];simp_all [qC]<;>omega)
theorem name_any(s:ByteArray)(w:World)(hs:s.size<2 ^ 62) :
  Calls prog 50 #[.string s] w fun e w'=>e=.returned (.bool (nameB s))/\w'=w:=by
 obtain⟨R,hR⟩:∃R,R=nameB s:=⟨_,rfl⟩;have HR:=ae hR;rw[<-hR];clear hR
 by_cases h0:s.size=0
 ·have HN:=ae (HR.o.trans (sF fun h=>absurd h.1 (by omega)));go_enter func50,ntmps50;go_wp2;go_ret;exact⟨bn HN.o.symm,rfl⟩
 by_cases h30:30<s.size
 ·have HN:=ae (HR.o.trans (sF fun h=>absurd h.2.1 (by omega)));have h1:¬s.size<1:=by omega
  go_enter func50,ntmps50;go_wp2;go_ret;exact⟨bn HN.o.symm,rfl⟩
 have hpos:0<s.size:=by omega
 have g1:((s.size:Int) == 0)=false:=by rw[beq_eq_false_iff_ne];omega
 have g2:decide (30<(s.size:Int))=false:=by rw[decide_eq_false_iff_not];omega
 have g3:decide ((s.size:Int)<1)=false:=by rw[decide_eq_false_iff_not];omega
 cases hl:qC s[0] with
 | false =>
  have HN:=ae (HR.o.trans (sF fun h=>by have:=h.2.2.1 hpos;rw[hl]at this;cases this));go_enter func50,ntmps50;go_wp2_with (first|(go_at_call 79;refine(Bg _ _).mono ?_;rintro e w' ⟨rfl,rfl⟩)|(go_at_call 80;refine(Ef _ _).mono ?_;rintro e w' ⟨rfl,rfl⟩));go_ret;exact⟨bn HN.o.symm,rfl⟩
 | true =>
  go_enter func50,ntmps50;go_wp2_with (first|(go_at_call 79;refine(Bg _ _).mono ?_;rintro e w' ⟨rfl,rfl⟩)|(go_at_call 80;refine(Ef _ _).mono ?_;rintro e w' ⟨rfl,rfl⟩))
  go_loop [3] (fun i=>∃k:Nat,1<=k/\k<=s.size/\i=.int .i64 k/\∀j,(hj:j<s.size)->j<k->1<=j->sD s[j]=true) (fun i=>s.size-(intOf i).toNat)
  case atStart=>exact⟨1,Nat.le_refl _,by omega,rfl,fun j hj h h'=>absurd h (by omega)⟩
  case round =>
   obtain⟨k,hk1,hk,rfl,hp⟩:=hrel;have HP:=ae hp;clear hp;clear g1 g2 g3
   by_cases hlt:k<s.size
   ·cases hd:sD s[k] with
    | true =>
     go_wp2_with (first|(go_at_call 79;refine(Bg _ _).mono ?_;rintro e w' ⟨rfl,rfl⟩)|(go_at_call 80;refine(Ef _ _).mono ?_;rintro e w' ⟨rfl,rfl⟩))
     all_goals go_round
     case rel =>
      refine⟨k+1,by omega,by omega,by go_num,fun j hj hjk hj1=>?_⟩
      by_cases hjk':j<k
      ·exact HP.o j hj hjk' hj1
      ·have e:j=k:=by omega
       subst e;exact hd
     case measure=>simp[intOf];omega
    | false =>
     have HN:=ae (HR.o.trans (sF fun h=>by have:=h.2.2.2 k hlt hk1;rw[hd]at this;cases this));go_wp2_with (first|(go_at_call 79;refine(Bg _ _).mono ?_;rintro e w' ⟨rfl,rfl⟩)|(go_at_call 80;refine(Ef _ _).mono ?_;rintro e w' ⟨rfl,rfl⟩));go_ret;exact⟨bn HN.o.symm,rfl⟩
   ·have HN:=ae (HR.o.trans (OD ⟨by omega,by omega,fun _=>hl,fun j hj h=>HP.o j hj (by omega) h⟩));clear hk;go_wp2;go_ret;exact⟨bn HN.o.symm,rfl⟩
theorem OE(s:ByteArray)(w:World)(hs:s.size<2 ^ 62) :
  Calls prog 23 #[.string s] w fun e w'=>e=.returned (.bool (nameB s))/\w'=w:=by
 obtain⟨R,hR⟩:∃R,R=nameB s:=⟨_,rfl⟩;have HR:=ae hR;rw[<-hR];clear hR
 by_cases h0:s.size=0
 ·have HN:=ae (HR.o.trans (sF fun h=>absurd h.1 (by omega)));go_enter func23,ntmps23;go_wp2;go_ret;exact⟨bn HN.o.symm,rfl⟩
 by_cases h30:30<s.size
 ·have HN:=ae (HR.o.trans (sF fun h=>absurd h.2.1 (by omega)));have h1:¬s.size<1:=by omega
  go_enter func23,ntmps23;go_wp2;go_ret;exact⟨bn HN.o.symm,rfl⟩
 have hpos:0<s.size:=by omega
 have g1:((s.size:Int) == 0)=false:=by rw[beq_eq_false_iff_ne];omega
 have g2:decide (30<(s.size:Int))=false:=by rw[decide_eq_false_iff_not];omega
 have g3:decide ((s.size:Int)<1)=false:=by rw[decide_eq_false_iff_not];omega
 cases hl:qC s[0] with
 | false =>
  have HN:=ae (HR.o.trans (sF fun h=>by have:=h.2.2.1 hpos;rw[hl]at this;cases this));go_enter func23,ntmps23;go_wp2_with (first|(go_at_call 42;refine(wP _ _).mono ?_;rintro e w' ⟨rfl,rfl⟩)|(go_at_call 43;refine(kV _ _).mono ?_;rintro e w' ⟨rfl,rfl⟩));go_ret;exact⟨bn HN.o.symm,rfl⟩
 | true =>
  go_enter func23,ntmps23;go_wp2_with (first|(go_at_call 42;refine(wP _ _).mono ?_;rintro e w' ⟨rfl,rfl⟩)|(go_at_call 43;refine(kV _ _).mono ?_;rintro e w' ⟨rfl,rfl⟩))
  go_loop [3] (fun i=>∃k:Nat,1<=k/\k<=s.size/\i=.int .i64 k/\∀j,(hj:j<s.size)->j<k->1<=j->sD s[j]=true) (fun i=>s.size-(intOf i).toNat)
  case atStart=>exact⟨1,Nat.le_refl _,by omega,rfl,fun j hj h h'=>absurd h (by omega)⟩
  case round =>
   obtain⟨k,hk1,hk,rfl,hp⟩:=hrel;have HP:=ae hp;clear hp;clear g1 g2 g3
   by_cases hlt:k<s.size
   ·cases hd:sD s[k] with
    | true =>
     rcases Bool.eq_false_or_eq_true (qC s[k]) with a1|a1
     ·go_wp2_with (first|(go_at_call 42;refine(wP _ _).mono ?_;rintro e w' ⟨rfl,rfl⟩)|(go_at_call 43;refine(kV _ _).mono ?_;rintro e w' ⟨rfl,rfl⟩))
      go_round
      case rel =>
       refine⟨k+1,by omega,by omega,by go_num,fun j hj hjk hj1=>?_⟩
       by_cases hjk':j<k
       ·exact HP.o j hj hjk' hj1
       ·have e:j=k:=by omega
        subst e;exact hd
      case measure=>simp[intOf];omega
     rcases Bool.eq_false_or_eq_true (aN s[k]) with a2|a2
     ·go_wp2_with (first|(go_at_call 42;refine(wP _ _).mono ?_;rintro e w' ⟨rfl,rfl⟩)|(go_at_call 43;refine(kV _ _).mono ?_;rintro e w' ⟨rfl,rfl⟩))
      go_round
      case rel =>
       refine⟨k+1,by omega,by omega,by go_num,fun j hj hjk hj1=>?_⟩
       by_cases hjk':j<k
       ·exact HP.o j hj hjk' hj1
       ·have e:j=k:=by omega
        subst e;exact hd
      case measure=>simp[intOf];omega
     by_cases a3:s[k].toNat=45
     ·have b3:((s[k].toNat:Int) != 45)=false:=by rw[a3];rfl
      have b5:((s[k].toNat:Int) != 95)=true:=by rw[a3];rfl
      clear a3;go_wp2_with (first|(go_at_call 42;refine(wP _ _).mono ?_;rintro e w' ⟨rfl,rfl⟩)|(go_at_call 43;refine(kV _ _).mono ?_;rintro e w' ⟨rfl,rfl⟩))
      go_round
      case rel =>
       refine⟨k+1,by omega,by omega,by go_num,fun j hj hjk hj1=>?_⟩
       by_cases hjk':j<k
       ·exact HP.o j hj hjk' hj1
       ·have e:j=k:=by omega
        subst e;exact hd
      case measure=>simp[intOf];omega
     ·have b3:((s[k].toNat:Int) != 45)=true:=by rw[bne_iff_ne];omega
      have b4:((s[k].toNat:Int) != 95)=false:=by unfold sD at hd;simp[a1,a2,a3]at hd;rw[hd];rfl
      clear a3;go_wp2_with (first|(go_at_call 42;refine(wP _ _).mono ?_;rintro e w' ⟨rfl,rfl⟩)|(go_at_call 43;refine(kV _ _).mono ?_;rintro e w' ⟨rfl,rfl⟩))
      go_round
      case rel =>
       refine⟨k+1,by omega,by omega,by go_num,fun j hj hjk hj1=>?_⟩
       by_cases hjk':j<k
       ·exact HP.o j hj hjk' hj1
       ·have e:j=k:=by omega
        subst e;exact hd
      case measure=>simp[intOf];omega
    | false =>
     have HN:=ae (HR.o.trans (sF fun h=>by have:=h.2.2.2 k hlt hk1;rw[hd]at this;cases this));obtain⟨a1,a2,a3,a4⟩:qC s[k]=false/\aN s[k]=false/\¬s[k].toNat=45/\¬s[k].toNat=95:=by
      unfold sD at hd;simpa [and_assoc] using hd
     have b3:((s[k].toNat:Int) != 45)=true:=by rw[bne_iff_ne];omega
     have b4:((s[k].toNat:Int) != 95)=true:=by rw[bne_iff_ne];omega
     clear a3 a4;go_wp2_with (first|(go_at_call 42;refine(wP _ _).mono ?_;rintro e w' ⟨rfl,rfl⟩)|(go_at_call 43;refine(kV _ _).mono ?_;rintro e w' ⟨rfl,rfl⟩));go_ret;exact⟨bn HN.o.symm,rfl⟩
   ·have HN:=ae (HR.o.trans (OD ⟨by omega,by omega,fun _=>hl,fun j hj h=>HP.o j hj (by omega) h⟩));clear hk;go_wp2;go_ret;exact⟨bn HN.o.symm,rfl⟩
open Go.RowKit
theorem YP(n:Int)(w:World):Calls prog 10 #[.int .i64 n] w fun e w'=>e=.returned (.int .i64 n)/\w'=w:=by
 go_enter func10,ntmps10;go_wp2;go_ret;exact⟨rfl,rfl⟩
end Go.Proofs.YtapodndfpecglaaGreatDoor
