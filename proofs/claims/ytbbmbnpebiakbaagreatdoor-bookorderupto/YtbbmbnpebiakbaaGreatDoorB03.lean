import Derived.Test.YtbbmbnpebiakbaaGreatDoorB02
import Derived.WalkKit
import Derived.WalkSpells
import Derived.WalkLawsBesides
import Derived.Deep.QuietTactic
import Derived.BigQuiet
import Derived.Below
import Derived.Shelf.Strings.Prefix
import Derived.Test.YtbbmbnpebiakbaaGreatDoorProg
import Derived.Test.YtbbmbnpebiakbaaGreatDoorB01
namespace Go.Proofs.YtbbmbnpebiakbaaGreatDoor
open Go.RowKit
set_option linter.unusedVariables false
def isL (c:UInt8):Bool:=decide (97<=c.toNat/\c.toNat<=122)
def isN (c:UInt8):Bool:=isL c || isD c || decide (c.toNat=45) || decide (c.toNat=95)
def NameP (s:ByteArray):Prop:=1<=s.size/\s.size<=30/\(∀h:0 < s.size,isL s[0]=true)/\∀j,(hj:j < s.size)->1<=j->isN s[j]=true
open Classical in
noncomputable def nameB (s:ByteArray):Bool:=decide (NameP s)
theorem nameB_t {s:ByteArray} (h:NameP s):nameB s=true:=by simp [nameB,h]
theorem nameB_f {s:ByteArray} (h:¬ NameP s):nameB s=false:=by simp [nameB,h]
set_option maxHeartbeats 400000 in
theorem isLetter_any (c:UInt8) (w:World):Calls Tryz.prog 74 #[.int .u8 (c.toNat:Int)] w fun e w'=>e=.returned (.bool (isL c))/\w'=w:=by
 go_enter Tryz.func74,Tryz.ntmps74
 go_wp2
 all_goals go_ret
 all_goals (refine ⟨ret_bool ?_,rfl⟩;rw [Bool.eq_iff_iff];simp_all [isL] <;> omega)
set_option maxHeartbeats 400000 in
theorem isNameByte_any (c:UInt8) (w:World):Calls Tryz.prog 75 #[.int .u8 (c.toNat:Int)] w fun e w'=>e=.returned (.bool (isN c))/\w'=w:=by
 go_enter Tryz.func75,Tryz.ntmps75
 go_wp2_with (first | (go_at_call 74;refine (isLetter_any _ _).mono ?_;rintro e w' ⟨rfl,rfl⟩))
 all_goals go_ret
 all_goals (refine ⟨ret_bool ?_,rfl⟩;rw [Bool.eq_iff_iff];simp_all [isN,isD] <;> omega)
set_option maxHeartbeats 400000 in
theorem rletter_any (c:UInt8) (w:World):Calls Tryz.prog 62 #[.int .u8 (c.toNat:Int)] w fun e w'=>e=.returned (.bool (isL c))/\w'=w:=by
 go_enter Tryz.func62,Tryz.ntmps62
 go_wp2
 all_goals go_ret
 all_goals (refine ⟨ret_bool ?_,rfl⟩;rw [Bool.eq_iff_iff];simp_all [isL] <;> omega)
set_option maxHeartbeats 4000000 in
theorem name_any (s:ByteArray) (w:World) (hs:s.size < 2 ^ 62) :
  Calls Tryz.prog 51 #[.string s] w fun e w'=>e=.returned (.bool (nameB s))/\w'=w:=by
 obtain ⟨R,hR⟩:∃R,R=nameB s:=⟨_,rfl⟩
 have HR:Hid (R=nameB s):=hR
 rw [<-hR]
 clear hR
 by_cases h0:s.size=0
 ·have HN:Hid (R=false):=HR.out.trans (nameB_f fun h=>absurd h.1 (by omega))
  go_enter Tryz.func51,Tryz.ntmps51
  go_wp2
  go_ret
  exact ⟨ret_bool HN.out.symm,rfl⟩
 by_cases h30:30 < s.size
 ·have HN:Hid (R=false):=HR.out.trans (nameB_f fun h=>absurd h.2.1 (by omega))
  have h1:¬ s.size < 1:=by omega
  go_enter Tryz.func51,Tryz.ntmps51
  go_wp2
  go_ret
  exact ⟨ret_bool HN.out.symm,rfl⟩
 have hpos:0 < s.size:=by omega
 have g1:((s.size:Int) == 0)=false:=by rw [beq_eq_false_iff_ne];omega
 have g2:decide (30 < (s.size:Int))=false:=by rw [decide_eq_false_iff_not];omega
 have g3:decide ((s.size:Int) < 1)=false:=by rw [decide_eq_false_iff_not];omega
 cases hl:isL s[0] with
 | false =>
  have HN:Hid (R=false):=HR.out.trans (nameB_f fun h=>by have:=h.2.2.1 hpos;rw [hl] at this;cases this)
  go_enter Tryz.func51,Tryz.ntmps51
  go_wp2_with (first | (go_at_call 74;refine (isLetter_any _ _).mono ?_;rintro e w' ⟨rfl,rfl⟩) | (go_at_call 75;refine (isNameByte_any _ _).mono ?_;rintro e w' ⟨rfl,rfl⟩))
  go_ret
  exact ⟨ret_bool HN.out.symm,rfl⟩
 | true =>
  go_enter Tryz.func51,Tryz.ntmps51
  go_wp2_with (first | (go_at_call 74;refine (isLetter_any _ _).mono ?_;rintro e w' ⟨rfl,rfl⟩) | (go_at_call 75;refine (isNameByte_any _ _).mono ?_;rintro e w' ⟨rfl,rfl⟩))
  go_loop [3] (fun i=>∃k:Nat,1<=k/\k<=s.size/\i=.int .i64 k/\∀j,(hj:j < s.size)->j < k->1<=j->isN s[j]=true) (fun i=>s.size - (intOf i).toNat)
  case atStart=>exact ⟨1,Nat.le_refl _,by omega,rfl,fun j hj h h'=>absurd h (by omega)⟩
  case round =>
   obtain ⟨k,hk1,hk,rfl,hp⟩:=hrel
   have HP:Hid (∀j,(hj:j < s.size)->j < k->1<=j->isN s[j]=true):=hp
   clear hp
   clear g1 g2 g3
   by_cases hlt:k < s.size
   ·cases hd:isN s[k] with
    | true =>
     go_wp2_with (first | (go_at_call 74;refine (isLetter_any _ _).mono ?_;rintro e w' ⟨rfl,rfl⟩) | (go_at_call 75;refine (isNameByte_any _ _).mono ?_;rintro e w' ⟨rfl,rfl⟩))
     all_goals go_round
     case rel =>
      refine ⟨k+1,by omega,by omega,by go_num,fun j hj hjk hj1=>?_⟩
      by_cases hjk':j < k
      ·exact HP.out j hj hjk' hj1
      ·have e:j=k:=by omega
       subst e
       exact hd
     case measure=>simp [intOf];omega
    | false =>
     have HN:Hid (R=false):=HR.out.trans (nameB_f fun h=>by have:=h.2.2.2 k hlt hk1;rw [hd] at this;cases this)
     go_wp2_with (first | (go_at_call 74;refine (isLetter_any _ _).mono ?_;rintro e w' ⟨rfl,rfl⟩) | (go_at_call 75;refine (isNameByte_any _ _).mono ?_;rintro e w' ⟨rfl,rfl⟩))
     go_ret
     exact ⟨ret_bool HN.out.symm,rfl⟩
   ·have HN:Hid (R=true):=HR.out.trans (nameB_t ⟨by omega,by omega,fun _=>hl,fun j hj h=>HP.out j hj (by omega) h⟩)
    clear hk
    go_wp2
    go_ret
    exact ⟨ret_bool HN.out.symm,rfl⟩
set_option maxHeartbeats 4000000 in
theorem rname_any (s:ByteArray) (w:World) (hs:s.size < 2 ^ 62) :
  Calls Tryz.prog 41 #[.string s] w fun e w'=>e=.returned (.bool (nameB s))/\w'=w:=by
 obtain ⟨R,hR⟩:∃R,R=nameB s:=⟨_,rfl⟩
 have HR:Hid (R=nameB s):=hR
 rw [<-hR]
 clear hR
 by_cases h0:s.size=0
 ·have HN:Hid (R=false):=HR.out.trans (nameB_f fun h=>absurd h.1 (by omega))
  go_enter Tryz.func41,Tryz.ntmps41
  go_wp2
  go_ret
  exact ⟨ret_bool HN.out.symm,rfl⟩
 by_cases h30:30 < s.size
 ·have HN:Hid (R=false):=HR.out.trans (nameB_f fun h=>absurd h.2.1 (by omega))
  have h1:¬ s.size < 1:=by omega
  go_enter Tryz.func41,Tryz.ntmps41
  go_wp2
  go_ret
  exact ⟨ret_bool HN.out.symm,rfl⟩
 have hpos:0 < s.size:=by omega
 have g1:((s.size:Int) == 0)=false:=by rw [beq_eq_false_iff_ne];omega
 have g2:decide (30 < (s.size:Int))=false:=by rw [decide_eq_false_iff_not];omega
 have g3:decide ((s.size:Int) < 1)=false:=by rw [decide_eq_false_iff_not];omega
 cases hl:isL s[0] with
 | false =>
  have HN:Hid (R=false):=HR.out.trans (nameB_f fun h=>by have:=h.2.2.1 hpos;rw [hl] at this;cases this)
  go_enter Tryz.func41,Tryz.ntmps41
  go_wp2_with (first | (go_at_call 62;refine (rletter_any _ _).mono ?_;rintro e w' ⟨rfl,rfl⟩) | (go_at_call 63;refine (rdigit_any _ _).mono ?_;rintro e w' ⟨rfl,rfl⟩))
  go_ret
  exact ⟨ret_bool HN.out.symm,rfl⟩
 | true =>
  go_enter Tryz.func41,Tryz.ntmps41
  go_wp2_with (first | (go_at_call 62;refine (rletter_any _ _).mono ?_;rintro e w' ⟨rfl,rfl⟩) | (go_at_call 63;refine (rdigit_any _ _).mono ?_;rintro e w' ⟨rfl,rfl⟩))
  go_loop [3] (fun i=>∃k:Nat,1<=k/\k<=s.size/\i=.int .i64 k/\∀j,(hj:j < s.size)->j < k->1<=j->isN s[j]=true) (fun i=>s.size - (intOf i).toNat)
  case atStart=>exact ⟨1,Nat.le_refl _,by omega,rfl,fun j hj h h'=>absurd h (by omega)⟩
  case round =>
   obtain ⟨k,hk1,hk,rfl,hp⟩:=hrel
   have HP:Hid (∀j,(hj:j < s.size)->j < k->1<=j->isN s[j]=true):=hp
   clear hp
   clear g1 g2 g3
   by_cases hlt:k < s.size
   ·cases hd:isN s[k] with
    | true =>
     rcases Bool.eq_false_or_eq_true (isL s[k]) with a1 | a1
     ·go_wp2_with (first | (go_at_call 62;refine (rletter_any _ _).mono ?_;rintro e w' ⟨rfl,rfl⟩) | (go_at_call 63;refine (rdigit_any _ _).mono ?_;rintro e w' ⟨rfl,rfl⟩))
      go_round
      case rel =>
       refine ⟨k+1,by omega,by omega,by go_num,fun j hj hjk hj1=>?_⟩
       by_cases hjk':j < k
       ·exact HP.out j hj hjk' hj1
       ·have e:j=k:=by omega
        subst e
        exact hd
      case measure=>simp [intOf];omega
     rcases Bool.eq_false_or_eq_true (isD s[k]) with a2 | a2
     ·go_wp2_with (first | (go_at_call 62;refine (rletter_any _ _).mono ?_;rintro e w' ⟨rfl,rfl⟩) | (go_at_call 63;refine (rdigit_any _ _).mono ?_;rintro e w' ⟨rfl,rfl⟩))
      go_round
      case rel =>
       refine ⟨k+1,by omega,by omega,by go_num,fun j hj hjk hj1=>?_⟩
       by_cases hjk':j < k
       ·exact HP.out j hj hjk' hj1
       ·have e:j=k:=by omega
        subst e
        exact hd
      case measure=>simp [intOf];omega
     by_cases a3:s[k].toNat=45
     ·have b3:((s[k].toNat:Int) != 45)=false:=by rw [a3];rfl
      have b5:((s[k].toNat:Int) != 95)=true:=by rw [a3];rfl
      clear a3
      go_wp2_with (first | (go_at_call 62;refine (rletter_any _ _).mono ?_;rintro e w' ⟨rfl,rfl⟩) | (go_at_call 63;refine (rdigit_any _ _).mono ?_;rintro e w' ⟨rfl,rfl⟩))
      go_round
      case rel =>
       refine ⟨k+1,by omega,by omega,by go_num,fun j hj hjk hj1=>?_⟩
       by_cases hjk':j < k
       ·exact HP.out j hj hjk' hj1
       ·have e:j=k:=by omega
        subst e
        exact hd
      case measure=>simp [intOf];omega
     ·have b3:((s[k].toNat:Int) != 45)=true:=by rw [bne_iff_ne];omega
      have b4:((s[k].toNat:Int) != 95)=false:=by unfold isN at hd;simp [a1,a2,a3] at hd;rw [hd];rfl
      clear a3
      go_wp2_with (first | (go_at_call 62;refine (rletter_any _ _).mono ?_;rintro e w' ⟨rfl,rfl⟩) | (go_at_call 63;refine (rdigit_any _ _).mono ?_;rintro e w' ⟨rfl,rfl⟩))
      go_round
      case rel =>
       refine ⟨k+1,by omega,by omega,by go_num,fun j hj hjk hj1=>?_⟩
       by_cases hjk':j < k
       ·exact HP.out j hj hjk' hj1
       ·have e:j=k:=by omega
        subst e
        exact hd
      case measure=>simp [intOf];omega
    | false =>
     have HN:Hid (R=false):=HR.out.trans (nameB_f fun h=>by have:=h.2.2.2 k hlt hk1;rw [hd] at this;cases this)
     obtain ⟨a1,a2,a3,a4⟩:isL s[k]=false/\isD s[k]=false/\¬ s[k].toNat=45/\¬ s[k].toNat=95:=by
      unfold isN at hd;simpa [and_assoc] using hd
     have b3:((s[k].toNat:Int) != 45)=true:=by rw [bne_iff_ne];omega
     have b4:((s[k].toNat:Int) != 95)=true:=by rw [bne_iff_ne];omega
     clear a3 a4
     go_wp2_with (first | (go_at_call 62;refine (rletter_any _ _).mono ?_;rintro e w' ⟨rfl,rfl⟩) | (go_at_call 63;refine (rdigit_any _ _).mono ?_;rintro e w' ⟨rfl,rfl⟩))
     go_ret
     exact ⟨ret_bool HN.out.symm,rfl⟩
   ·have HN:Hid (R=true):=HR.out.trans (nameB_t ⟨by omega,by omega,fun _=>hl,fun j hj h=>HP.out j hj (by omega) h⟩)
    clear hk
    go_wp2
    go_ret
    exact ⟨ret_bool HN.out.symm,rfl⟩
end Go.Proofs.YtbbmbnpebiakbaaGreatDoor
namespace Go.Proofs
open Go.Shelf
def Tryz.lays99_ren:Go.Shelf.Ren:=⟨fun | 99=>166 | 206=>135 | n=>n,fun | 22=>130 | 23=>190 | 24=>110 | 25=>111 | 27=>79 | 28=>165 | 31=>40 | 32=>112 | 33=>90 | 37=>53 | 40=>215 | 41=>95 | 42=>153 | 43=>109 | 46=>102 | 47=>101 | 48=>98 | 51=>134 | 52=>133 | 53=>136 | 54=>135 | 55=>204 | 59=>167 | 60=>168 | 63=>207 | 64=>210 | 67=>94 | 68=>143 | 69=>67 | 70=>52 | 71=>54 | 72=>55 | 73=>116 | 74=>63 | 75=>64 | 76=>65 | 77=>66 | 80=>68 | 81=>120 | 83=>81 | 84=>115 | 100=>84 | 101=>49 | 102=>70 | 103=>39 | 104=>83 | 105=>205 | 106=>206 | 111=>166 | 114=>175 | 115=>196 | 116=>197 | 117=>198 | 118=>199 | 119=>211 | 122=>195 | 123=>200 | 124=>201 | 127=>85 | 131=>72 | 135=>100 | 137=>212 | 138=>213 | 139=>214 | 146=>208 | 151=>209 | 164=>103 | 165=>104 | 166=>179 | 171=>149 | 172=>150 | 173=>151 | 174=>152 | 182=>126 | 183=>127 | 188=>125 | 189=>128 | 190=>129 | 191=>131 | 192=>132 | 211=>176 | 212=>177 | 213=>178 | 218=>154 | 219=>155 | 220=>156 | 222=>158 | 224=>157 | 225=>159 | 228=>180 | 229=>181 | 231=>182 | 232=>202 | 233=>203 | 238=>216 | 239=>217 | 240=>218 | 241=>219 | 242=>220 | 243=>221 | 244=>222 | 245=>223 | 246=>224 | 247=>225 | 248=>226 | 249=>227 | n=>n,fun | 3=>4 | 4=>5 | 17=>0 | 18=>2 | 19=>3 | n=>n⟩
set_option maxRecDepth 100000 in
theorem Tryz.lays99:Go.Proofs.Lays.n99 Tryz.prog Tryz.lays99_ren:={
 mixed:=by kernel_rfl
 f99:=Tryz.func166.trans (congrArg some (by kernel_rfl))
 f206:=Tryz.func135.trans (congrArg some (by kernel_rfl))
 t3:=Tryz.underlying3
 a3:=Tryz.isAgg3
 z3:=Tryz.sizeOf3
 v3:=Tryz.zeroValue3
 t4:=Tryz.underlying4
 a4:=Tryz.isAgg4
 z4:=Tryz.sizeOf4
 v4:=Tryz.zeroValue4
 t9:=Tryz.underlying9
 a9:=Tryz.isAgg9
 z9:=Tryz.sizeOf9
 v9:=Tryz.zeroValue9 }
end Go.Proofs
namespace Go.Proofs.YtbbmbnpebiakbaaGreatDoor
open Go.RowKit
set_option linter.unusedVariables false
set_option maxHeartbeats 400000 in
theorem isPartByte_any (c:UInt8) (w:World):Calls Tryz.prog 167 #[.int .u8 (c.toNat:Int)] w fun e w'=>e=.returned (.bool (isP c))/\w'=w:=by
 go_enter Tryz.func167,Tryz.ntmps167
 go_wp2_with (go_at_call 157;refine (isDigit_any _ _).mono ?_;rintro e w' ⟨rfl,rfl⟩)
 all_goals go_ret
 all_goals (refine ⟨ret_bool ?_,rfl⟩;rw [Bool.eq_iff_iff];unfold isP;simp_all;try omega)
def RS (b:Nat) (s:ByteArray) (i:Nat) (w:World):Prop:=∃t,w.heap[b]?=some (.cells #[.string s,.int .i64 (i:Int)] t (0,0))
theorem RS.c0 {b:Nat} {s:ByteArray} {i:Nat} {w:World} (h:RS b s i w):w.cell? ⟨b,0,none⟩=some (.string s):=by obtain ⟨t,h⟩:=h;rw [Lib.cell_of_heap h];rfl
theorem RS.c1 {b:Nat} {s:ByteArray} {i:Nat} {w:World} (h:RS b s i w):w.cell? ⟨b,1,none⟩=some (.int .i64 (i:Int)):=by obtain ⟨t,h⟩:=h;rw [Lib.cell_of_heap h];rfl
theorem RS.f1 {b:Nat} {s:ByteArray} {i:Nat} {w:World} (h:RS b s i w):w.frozen? ⟨b,1,none⟩=false:=by obtain ⟨t,h⟩:=h;exact Lib.frozen_of_heap h 1
theorem RS.drew {b:Nat} {s:ByteArray} {i:Nat} {w:World} (h:RS b s i w) (n:Nat):RS b s i (w.drewN n):=h
theorem RS.set {b:Nat} {s:ByteArray} {i:Nat} {w:World} (h:RS b s i w) (j:Nat):RS b s j (w.setCell ⟨b,1,none⟩ (.int .i64 (j:Int))):=by
 obtain ⟨t,h⟩:=h
 exact ⟨t,by simp [World.setCell,Array.getElem?_modify,h]⟩
theorem prefix_any (s p:ByteArray) (w:World) :
  Calls Tryz.prog 166 #[.string s,.string p] w fun e w'=>e=.returned (.bool (Lib.hasPrefix s.data.toList p.data.toList))/\w'=w:=Any.strings_HasPrefix Tryz.lays99 s p w
set_option maxHeartbeats 400000 in
theorem next_any (b:Nat) (s t:ByteArray) (i:Nat) (w:World) (hi:i<=s.size) (h:RS b s i w) :
  Calls Tryz.prog 155 #[.pointer (some ⟨b,0,none⟩),.string t] w fun e w'=>e=.returned (.bool (Lib.hasPrefix (s.data.toList.drop i) t.data.toList))/\∃n,w'=w.drewN n:=by
 have h0:=h.c0
 have h1:=h.c1
 obtain ⟨X,hX⟩:∃X:ByteArray,X=⟨(s.data.toList.drop i).toArray⟩:=⟨_,rfl⟩
 have sl:∀wx,(Instr.slice 9 (.string s) (some (.int .i64 (i:Int))) none none).run Tryz.prog wx=.ok (.string X) wx:=fun wx=>by rw [hX];exact run_suf s i hi wx
 obtain ⟨p,hp⟩:∃p,Lib.hasPrefix (s.data.toList.drop i) t.data.toList=p:=⟨_,rfl⟩
 have CP:Hid (∀w,Calls Tryz.prog 166 #[.string X,.string t] w fun e w'=>e=.returned (.bool p)/\w'=w):=fun w=>by
  rw [<-hp]
  have:=prefix_any X t w
  rw [hX] at this ⊢
  exact this
 rw [hp]
 clear h hX hp hi
 go_enter Tryz.func155,Tryz.ntmps155
 go_wp2
 go_quiet (first | (go_at_call 166;exact Calls.quiet_of_same (CP.out _)))
 go_wp2
 go_ret
 exact ⟨rfl,_,rfl⟩
set_option maxHeartbeats 400000 in
theorem take_any (b:Nat) (s t:ByteArray) (i:Nat) (w:World) (hi:i<=s.size) (h:RS b s i w) (hs:s.size < 2 ^ 62) (ht:t.size < 2 ^ 62) :
  Calls Tryz.prog 146 #[.pointer (some ⟨b,0,none⟩),.string t] w fun e w'=>e=.returned (.bool (Lib.hasPrefix (s.data.toList.drop i) t.data.toList))/\RS b s (if Lib.hasPrefix (s.data.toList.drop i) t.data.toList then i+t.size else i) w'/\w.grownBy w' (some b):=by
 obtain ⟨p,hp⟩:∃p,Lib.hasPrefix (s.data.toList.drop i) t.data.toList=p:=⟨_,rfl⟩
 have CN:Hid (Calls Tryz.prog 155 #[.pointer (some ⟨b,0,none⟩),.string t] w fun e w'=>e=.returned (.bool p)/\∃n,w'=w.drewN n):=by
  show Calls _ _ _ _ _
  rw [<-hp];exact next_any b s t i w hi h
 rw [hp]
 have HR:Hid (RS b s i w):=h
 have hw:IntKind.i64.wrap ((i:Int)+(t.size:Int))=((i+t.size:Nat):Int):=by rw [IntKind.wrap_i64];omega
 clear hp h hs ht hi
 cases p with
 | true =>
  go_enter Tryz.func146,Tryz.ntmps146
  go_wp2_with (go_at_call 155;refine CN.out.mono ?_)
  rintro e w1 ⟨rfl,n,hn⟩
  have HR1:Hid (RS b s i w1):=by show RS b s i w1;rw [hn];exact HR.out.drew n
  have HG1:Hid (w.grownBy w1 (some b)):=by show w.grownBy w1 (some b);rw [hn];exact gb_drew (gb_refl w _) n
  have d1:=HR1.out.c1
  have df:=HR1.out.f1
  clear hn
  go_wp2
  go_ret
  exact ⟨rfl,HR1.out.set (i+t.size),gb_set HG1.out _ _⟩
 | false =>
  go_enter Tryz.func146,Tryz.ntmps146
  go_wp2_with (go_at_call 155;refine CN.out.mono ?_)
  rintro e w1 ⟨rfl,n,hn⟩
  have HR1:Hid (RS b s i w1):=by show RS b s i w1;rw [hn];exact HR.out.drew n
  have HG1:Hid (w.grownBy w1 (some b)):=by show w.grownBy w1 (some b);rw [hn];exact gb_drew (gb_refl w _) n
  clear hn
  go_wp2
  go_ret
  exact ⟨rfl,HR1.out,HG1.out⟩
set_option maxHeartbeats 400000 in
theorem ended_any (b:Nat) (s:ByteArray) (i:Nat) (w:World) (h:RS b s i w) :
  Calls Tryz.prog 128 #[.pointer (some ⟨b,0,none⟩)] w fun e w'=>e=.returned (.bool (decide (i=s.size)))/\∃n,w'=w.drewN n:=by
 have h0:=h.c0
 have h1:=h.c1
 clear h
 by_cases hc:i=s.size
 ·have hd:((i:Int) == (s.size:Int))=true:=by simp;omega
  have HD:Hid (decide (i=s.size)=true):=decide_eq_true hc
  rw [HD.out]
  clear hc
  go_enter Tryz.func128,Tryz.ntmps128
  go_wp2
  go_quiet (fail)
  go_wp2
  go_ret
  exact ⟨rfl,_,rfl⟩
 ·have hd:((i:Int) == (s.size:Int))=false:=by simp;omega
  have HD:Hid (decide (i=s.size)=false):=decide_eq_false hc
  rw [HD.out]
  clear hc
  go_enter Tryz.func128,Tryz.ntmps128
  go_wp2
  go_quiet (fail)
  go_wp2
  go_ret
  exact ⟨rfl,_,rfl⟩
theorem prefix_one (l:List UInt8) (i:Nat) (c:UInt8):Lib.hasPrefix (l.drop i) [c]=decide (l[i]?=some c):=by
 have e:l[i]?=(l.drop i)[0]?:=by rw [List.getElem?_drop];rfl
 rw [e]
 cases l.drop i with
 | nil=>rfl
 | cons x r =>
  show (c == x && true)=decide (some x=some c)
  rw [Bool.and_true]
  by_cases h:x=c
  ·subst h;rw [decide_eq_true rfl];exact beq_self_eq_true x
  ·rw [decide_eq_false (fun e=>h (Option.some.inj e))]
   exact beq_eq_false_iff_ne.2 (fun e=>h e.symm)
theorem take_yes (b:Nat) (s:ByteArray) (i:Nat) (c:UInt8) (w:World) (hc:s.data.toList[i]?=some c) (h:RS b s i w) (hs:s.size < 2 ^ 62) :
  Calls Tryz.prog 146 #[.pointer (some ⟨b,0,none⟩),.string ⟨#[c]⟩] w fun e w'=>e=.returned (.bool true)/\RS b s (i+1) w'/\w.grownBy w' (some b):=by
 have hlt:i < s.size:=by have:=(List.getElem?_eq_some_iff.1 hc).1;simpa using this
 have:=take_any b s ⟨#[c]⟩ i w (Nat.le_of_lt hlt) h hs (by show 1 < _;decide)
 rw [show (ByteArray.mk #[c]).data.toList=[c] from rfl,prefix_one,decide_eq_true hc] at this
 exact this
theorem take_no (b:Nat) (s:ByteArray) (i:Nat) (c:UInt8) (w:World) (hi:i<=s.size) (hc:¬ s.data.toList[i]?=some c) (h:RS b s i w) (hs:s.size < 2 ^ 62) :
  Calls Tryz.prog 146 #[.pointer (some ⟨b,0,none⟩),.string ⟨#[c]⟩] w fun e w'=>e=.returned (.bool false)/\RS b s i w'/\w.grownBy w' (some b):=by
 have:=take_any b s ⟨#[c]⟩ i w hi h hs (by show 1 < _;decide)
 rw [show (ByteArray.mk #[c]).data.toList=[c] from rfl,prefix_one,decide_eq_false hc] at this
 exact this
open Go.RowKit
set_option linter.unusedVariables false
def placeOf (b:Nat) (w:World):Nat:=match w.cell? ⟨b,1,none⟩ with | some (.int .i64 x)=>x.toNat | _=>0
theorem RS.place {b:Nat} {s:ByteArray} {i:Nat} {w:World} (h:RS b s i w):placeOf b w=i:=by unfold placeOf;rw [h.c1];simp
set_option maxHeartbeats 800000 in
theorem run_digits (b:Nat) (s:ByteArray) (i:Nat) (w:World) (hi:i<=s.size) (h:RS b s i w) (hs:s.size < 2 ^ 62) :
  Calls Tryz.prog 156 #[.pointer (some ⟨b,0,none⟩),.func (.func 157) #[] #[]] w fun e w'=>e=.returned (.string ⟨(subT s.data.toList i (runN isD s.data.toList i)).toArray⟩)/\RS b s (i+runN isD s.data.toList i) w'/\w.grownBy w' (some b):=by
 have h0:=h.c0
 have h1:=h.c1
 have HR:Hid (RS b s i w):=h
 obtain ⟨N,hN⟩:∃N,i+runN isD s.data.toList i=N:=⟨_,rfl⟩
 have HN:Hid (N<=s.size):=by
  show N<=s.size
  have:=runN_le isD s.data.toList i (by simpa using hi)
  simp at this;omega
 have HA:Hid (∀j,i<=j->(hj:j < s.size)->j < N->isD s[j]=true):=by
  show ∀j,i<=j->(hj:j < s.size)->j < N->isD s[j]=true
  intro j h1 hj h2
  obtain ⟨g1,g2⟩:=runN_at isD s.data.toList i (j - i) (by omega)
  have e:i+(j - i)=j:=by omega
  simp only [e] at g2
  exact g2
 have HS:Hid (∀hj:N < s.size,isD s[N]=false):=by
  show ∀hj:N < s.size,isD s[N]=false
  intro hj
  have:=runN_stop isD s.data.toList i (by rw [hN];simpa using hj)
  simp only [hN] at this
  exact this
 have HT:Hid (runN isD s.data.toList i=N - i/\i<=N):=⟨by omega,by omega⟩
 have HI:Hid (i<=s.size):=hi
 rw [show runN isD s.data.toList i=N - i by omega]
 obtain ⟨X,hX⟩:∃X:List UInt8,X=subT s.data.toList i (N - i):=⟨_,rfl⟩
 have hsl:∀wx,(Instr.slice 9 (.string s) (some (.int .i64 (i:Int))) (some (.int .i64 (N:Int))) none).run Tryz.prog wx=.ok (.string ⟨X.toArray⟩) wx:=fun wx=>by rw [hX];exact run_sub s i N (by omega) HN.out wx
 rw [<-hX,show i+(N - i)=N by omega]
 clear h hN hi hX
 go_enter Tryz.func156,Tryz.ntmps156
 go_wp2
 go_loopw [] (fun wr=>∃j:Nat,i<=j/\j<=N/\RS b s j wr/\w.grownBy wr (some b)) (fun wr=>s.size - placeOf b wr)
 case atStart=>exact ⟨i,Nat.le_refl _,HT.out.2,HR.out,gb_refl _ _⟩
 case round =>
  obtain ⟨j,hij,hjn,hrs,hgb⟩:=hrel
  have d0:=hrs.c0
  have d1:=hrs.c1
  have df:=hrs.f1
  have HRS:Hid (RS b s j wr):=hrs
  have HGB:Hid (w.grownBy wr (some b)):=hgb
  have hns:=HN.out
  clear hrs hgb h0 h1
  by_cases hlt:j < N
  ·have hjs:j < s.size:=by omega
   have hD:isD s[j]=true:=HA.out j hij hjs hlt
   have HK:Hid (i<=j/\j < N):=⟨hij,hlt⟩
   clear hlt hjn hns hij
   have hlt2:(j:Int) < (s.size:Int):=by omega
   go_wp2
   go_quiet (first | (go_at_call 157;exact Calls.quiet_of_same (isDigit_any _ _)))
   go_wp2
   go_roundw
   case rel =>
    have:=HK.out
    exact ⟨j+1,by omega,by omega,(HRS.out.drew _).set (j+1),gb_set (gb_drew HGB.out _) _ _⟩
   case measure =>
    have e1:=HRS.out.place
    have e2:=((HRS.out.drew nq).set (j+1)).place
    rw [e1]
    exact Nat.lt_of_le_of_lt (Nat.le_of_eq (congrArg (s.size - ·) e2)) (by omega)
  ·have hjN:j=N:=by omega
   subst hjN
   by_cases hjs:j < s.size
   ·have hD:isD s[j]=false:=HS.out hjs
    have hlt2:(j:Int) < (s.size:Int):=by omega
    clear hlt hjn hns hij
    go_wp2
    go_quiet (first | (go_at_call 157;exact Calls.quiet_of_same (isDigit_any _ _)))
    go_wp2
    obtain ⟨W,hW⟩:∃W,wr.drewN nq=W:=⟨_,rfl⟩
    have e0:W.cell? ⟨b,0,none⟩=some (.string s):=by rw [<-hW];exact d0
    have e1:W.cell? ⟨b,1,none⟩=some (.int .i64 (j:Int)):=by rw [<-hW];exact d1
    have HW:Hid (RS b s j W/\w.grownBy W (some b)):=by
     show RS b s j W/\w.grownBy W (some b)
     rw [<-hW];exact ⟨HRS.out.drew _,gb_drew HGB.out _⟩
    rw [hW]
    clear hW d0 d1 df HRS HGB
    go_quiet (fail)
    go_wp2
    go_ret
    exact ⟨rfl,HW.out.1.drew _,gb_drew HW.out.2 _⟩
   ·have hd2:decide ((j:Int) < (s.size:Int))=false:=by simp;omega
    clear hlt hjn hns hij
    go_wp2
    go_quiet (fail)
    go_wp2
    obtain ⟨W,hW⟩:∃W,wr.drewN nq=W:=⟨_,rfl⟩
    have e0:W.cell? ⟨b,0,none⟩=some (.string s):=by rw [<-hW];exact d0
    have e1:W.cell? ⟨b,1,none⟩=some (.int .i64 (j:Int)):=by rw [<-hW];exact d1
    have HW:Hid (RS b s j W/\w.grownBy W (some b)):=by
     show RS b s j W/\w.grownBy W (some b)
     rw [<-hW];exact ⟨HRS.out.drew _,gb_drew HGB.out _⟩
    rw [hW]
    clear hW d0 d1 df HRS HGB
    go_quiet (fail)
    go_wp2
    go_ret
    exact ⟨rfl,HW.out.1.drew _,gb_drew HW.out.2 _⟩
set_option maxHeartbeats 800000 in
theorem run_parts (b:Nat) (s:ByteArray) (i:Nat) (w:World) (hi:i<=s.size) (h:RS b s i w) (hs:s.size < 2 ^ 62) :
  Calls Tryz.prog 156 #[.pointer (some ⟨b,0,none⟩),.func (.func 167) #[] #[]] w fun e w'=>e=.returned (.string ⟨(subT s.data.toList i (runN isP s.data.toList i)).toArray⟩)/\RS b s (i+runN isP s.data.toList i) w'/\w.grownBy w' (some b):=by
 have h0:=h.c0
 have h1:=h.c1
 have HR:Hid (RS b s i w):=h
 obtain ⟨N,hN⟩:∃N,i+runN isP s.data.toList i=N:=⟨_,rfl⟩
 have HN:Hid (N<=s.size):=by
  show N<=s.size
  have:=runN_le isP s.data.toList i (by simpa using hi)
  simp at this;omega
 have HA:Hid (∀j,i<=j->(hj:j < s.size)->j < N->isP s[j]=true):=by
  show ∀j,i<=j->(hj:j < s.size)->j < N->isP s[j]=true
  intro j h1 hj h2
  obtain ⟨g1,g2⟩:=runN_at isP s.data.toList i (j - i) (by omega)
  have e:i+(j - i)=j:=by omega
  simp only [e] at g2
  exact g2
 have HS:Hid (∀hj:N < s.size,isP s[N]=false):=by
  show ∀hj:N < s.size,isP s[N]=false
  intro hj
  have:=runN_stop isP s.data.toList i (by rw [hN];simpa using hj)
  simp only [hN] at this
  exact this
 have HT:Hid (runN isP s.data.toList i=N - i/\i<=N):=⟨by omega,by omega⟩
 have HI:Hid (i<=s.size):=hi
 rw [show runN isP s.data.toList i=N - i by omega]
 obtain ⟨X,hX⟩:∃X:List UInt8,X=subT s.data.toList i (N - i):=⟨_,rfl⟩
 have hsl:∀wx,(Instr.slice 9 (.string s) (some (.int .i64 (i:Int))) (some (.int .i64 (N:Int))) none).run Tryz.prog wx=.ok (.string ⟨X.toArray⟩) wx:=fun wx=>by rw [hX];exact run_sub s i N (by omega) HN.out wx
 rw [<-hX,show i+(N - i)=N by omega]
 clear h hN hi hX
 go_enter Tryz.func156,Tryz.ntmps156
 go_wp2
 go_loopw [] (fun wr=>∃j:Nat,i<=j/\j<=N/\RS b s j wr/\w.grownBy wr (some b)) (fun wr=>s.size - placeOf b wr)
 case atStart=>exact ⟨i,Nat.le_refl _,HT.out.2,HR.out,gb_refl _ _⟩
 case round =>
  obtain ⟨j,hij,hjn,hrs,hgb⟩:=hrel
  have d0:=hrs.c0
  have d1:=hrs.c1
  have df:=hrs.f1
  have HRS:Hid (RS b s j wr):=hrs
  have HGB:Hid (w.grownBy wr (some b)):=hgb
  have hns:=HN.out
  clear hrs hgb h0 h1
  by_cases hlt:j < N
  ·have hjs:j < s.size:=by omega
   have hD:isP s[j]=true:=HA.out j hij hjs hlt
   have HK:Hid (i<=j/\j < N):=⟨hij,hlt⟩
   clear hlt hjn hns hij
   have hlt2:(j:Int) < (s.size:Int):=by omega
   go_wp2
   go_quiet (first | (go_at_call 167;exact Calls.quiet_of_same (isPartByte_any _ _)))
   go_wp2
   go_roundw
   case rel =>
    have:=HK.out
    exact ⟨j+1,by omega,by omega,(HRS.out.drew _).set (j+1),gb_set (gb_drew HGB.out _) _ _⟩
   case measure =>
    have e1:=HRS.out.place
    have e2:=((HRS.out.drew nq).set (j+1)).place
    rw [e1]
    exact Nat.lt_of_le_of_lt (Nat.le_of_eq (congrArg (s.size - ·) e2)) (by omega)
  ·have hjN:j=N:=by omega
   subst hjN
   by_cases hjs:j < s.size
   ·have hD:isP s[j]=false:=HS.out hjs
    have hlt2:(j:Int) < (s.size:Int):=by omega
    clear hlt hjn hns hij
    go_wp2
    go_quiet (first | (go_at_call 167;exact Calls.quiet_of_same (isPartByte_any _ _)))
    go_wp2
    obtain ⟨W,hW⟩:∃W,wr.drewN nq=W:=⟨_,rfl⟩
    have e0:W.cell? ⟨b,0,none⟩=some (.string s):=by rw [<-hW];exact d0
    have e1:W.cell? ⟨b,1,none⟩=some (.int .i64 (j:Int)):=by rw [<-hW];exact d1
    have HW:Hid (RS b s j W/\w.grownBy W (some b)):=by
     show RS b s j W/\w.grownBy W (some b)
     rw [<-hW];exact ⟨HRS.out.drew _,gb_drew HGB.out _⟩
    rw [hW]
    clear hW d0 d1 df HRS HGB
    go_quiet (fail)
    go_wp2
    go_ret
    exact ⟨rfl,HW.out.1.drew _,gb_drew HW.out.2 _⟩
   ·have hd2:decide ((j:Int) < (s.size:Int))=false:=by simp;omega
    clear hlt hjn hns hij
    go_wp2
    go_quiet (fail)
    go_wp2
    obtain ⟨W,hW⟩:∃W,wr.drewN nq=W:=⟨_,rfl⟩
    have e0:W.cell? ⟨b,0,none⟩=some (.string s):=by rw [<-hW];exact d0
    have e1:W.cell? ⟨b,1,none⟩=some (.int .i64 (j:Int)):=by rw [<-hW];exact d1
    have HW:Hid (RS b s j W/\w.grownBy W (some b)):=by
     show RS b s j W/\w.grownBy W (some b)
     rw [<-hW];exact ⟨HRS.out.drew _,gb_drew HGB.out _⟩
    rw [hW]
    clear hW d0 d1 df HRS HGB
    go_quiet (fail)
    go_wp2
    go_ret
    exact ⟨rfl,HW.out.1.drew _,gb_drew HW.out.2 _⟩
end Go.Proofs.YtbbmbnpebiakbaaGreatDoor
