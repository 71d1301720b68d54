import Derived.Test.YtpeghomkaphdcaaGreatDoorM02
import Derived.WalkLawsBesides
import Derived.Deep.QuietTactic
import Derived.BigQuiet
import Derived.WalkKit
import Derived.WalkSpells
import Derived.Below
import Derived.Shelf.Strings.Prefix
import Derived.Test.YtpeghomkaphdcaaGreatDoorProg
namespace Go.Proofs.YtpeghomkaphdcaaGreatDoor
open Go.RowKit
set_option linter.unusedVariables false
def sg (c:Int):Int:=if 48<=c/\c<=57 then c - 48 else if 97<=c/\c<=102 then c - 87 else -1
theorem sg_nonneg (c:Int):0<=sg c ↔ (48<=c/\c<=57)\/(97<=c/\c<=102):=by unfold sg;split;omega;split;omega;omega
def okS (b:UInt8):Bool:=decide (0<=sg b.toNat)
theorem okS_iff (b:UInt8):okS b=true ↔ 0<=sg b.toNat:=by simp [okS]
def dgFw (l:List UInt8):Nat:=l.findIdx (fun b=>!okS b)
theorem fw_at (l:List UInt8) (k:Nat) (hk:k < l.length) (hp:∀j,(hj:j < k)->okS (l[j]'(by omega))=true) (hb:okS l[k]=false):dgFw l=k:=by
 unfold dgFw
 rw [List.findIdx_eq hk]
 exact ⟨by simp [hb],fun j hj=>by simpa using hp j hj⟩
theorem fw_all (l:List UInt8) (hp:∀j,(hj:j < l.length)->okS l[j]=true):dgFw l=l.length:=by
 unfold dgFw
 rw [List.findIdx_eq_length]
 intro x hx
 obtain ⟨j,hj,rfl⟩:=List.getElem_of_mem hx
 simpa using hp j hj
def dgPre:List UInt8:=[115,104,97,50,53,54,58]
def isDig (l:List UInt8):Bool:=decide (l.length=71) && (l.take 7 == dgPre) && (decide (dgFw (l.drop 7)=(l.drop 7).length))
theorem ex7 (s:ByteArray):(s.extract 0 7).toList=s.data.toList.take 7:=by
 rw [ByteArray.toList_eq,ByteArray.data_extract]
 simp
theorem dig_lead (l:List UInt8) (hl:l.length=71) (h7:l.take 7=dgPre):isDig l=decide (dgFw (l.drop 7)=(l.drop 7).length):=by
 unfold isDig;rw [hl,h7];rfl
theorem fw_drop_no (l:List UInt8) (k:Nat) (h7:7<=k) (hk:k < l.length) (hp:∀j,(hj:j < k)->7<=j->(hz:j < l.length)->okS l[j]=true) (hb:okS l[k]=false):decide (dgFw (l.drop 7)=(l.drop 7).length)=false:=by
 rw [fw_at (l.drop 7) (k - 7) (by simp;omega) (fun j hj=>by rw [List.getElem_drop];exact hp (7+j) (by omega) (by omega) _) (by
  rw [List.getElem_drop]
  rw [<-hb]
  congr 1
  congr 1
  omega)]
 simp
 omega
theorem fw_drop_yes (l:List UInt8) (hp:∀j,7<=j->(hz:j < l.length)->okS l[j]=true):decide (dgFw (l.drop 7)=(l.drop 7).length)=true:=by
 rw [fw_all (l.drop 7) (fun j hj=>by rw [List.getElem_drop];exact hp (7+j) (by omega) _)]
 simp
theorem dig_not (l:List UInt8) (h7:¬ l.take 7=dgPre):isDig l=false:=by
 unfold isDig
 rw [show (l.take 7 == dgPre)=false from by simpa using h7]
 simp
set_option maxHeartbeats 400000 in
theorem dgSign_any (c:Int) (w:World) (h0:0<=c) (h1:c<=255):Calls Tryz.prog 65 #[.int .u8 c] w fun e w'=>e=.returned (.int .i64 (sg c))/\w'=w:=by
 go_enter Tryz.func65,Tryz.ntmps65
 go_wp2
 all_goals go_ret
 all_goals refine ⟨ret_int ?_,rfl⟩
 all_goals (unfold sg;first | (rw [if_pos ⟨‹_›,‹_›⟩];done) | (rw [if_neg (by omega),if_pos (by omega)];omega) | (rw [if_neg (by omega),if_neg (by omega)]))
set_option maxHeartbeats 400000 in
theorem isSign_any (c:Int) (w:World):Calls Tryz.prog 106 #[.int .u8 c] w fun e w'=>e=.returned (.bool (decide (0<=sg c)))/\w'=w:=by
 go_enter Tryz.func106,Tryz.ntmps106
 go_wp2
 all_goals go_ret
 all_goals (refine ⟨ret_bool ?_,rfl⟩;rw [Bool.eq_iff_iff];simp [sg_nonneg];omega)
set_option maxHeartbeats 400000 in
theorem fw_any (s:ByteArray) (w:World) (hs:s.size<=maxLen) :
  Calls Tryz.prog 77 #[.string s] w fun e w'=>e=.returned (.int .i64 (dgFw s.data.toList))/\w'=w:=by
 unfold maxLen at hs
 go_enter Tryz.func77,Tryz.ntmps77
 go_wp2
 go_loop [6] (fun i=>∃k:Nat,k<=s.size/\i=.int .i64 k/\∀j,(hj:j < k)->(hz:j < s.data.toList.length)->okS s.data.toList[j]=true) (fun i=>s.size - (intOf i).toNat)
 case atStart=>exact ⟨0,Nat.zero_le _,rfl,fun j hj=>absurd hj (by omega)⟩
 case round =>
  obtain ⟨k,hk,rfl,hp⟩:=hrel
  have HP:Hid (∀j,(hj:j < k)->(hz:j < s.data.toList.length)->okS s.data.toList[j]=true):=hp
  clear hp
  by_cases hlt:k < s.size
  ·by_cases hb:0<=sg (s[k].toNat:Int)
   ·have hd:decide (0<=sg (s[k].toNat:Int))=true:=by simpa using hb
    go_wp2_with (go_at_call 106;refine (isSign_any _ _).mono ?_;rintro e w' ⟨rfl,rfl⟩)
    go_round
    case rel =>
     refine ⟨k+1,by omega,by go_num,fun j hj hz=>?_⟩
     by_cases hjk:j < k
     ·exact HP.out j hjk hz
     ·have e:j=k:=by omega
      subst e
      rw [okS_iff]
      exact hb
    case measure=>simp [intOf];omega
   ·have hd:decide (0<=sg (s[k].toNat:Int))=false:=by simpa using hb
    go_wp2_with (go_at_call 106;refine (isSign_any _ _).mono ?_;rintro e w' ⟨rfl,rfl⟩)
    go_ret
    refine ⟨ret_int ?_,rfl⟩
    rw [fw_at s.data.toList k (by simpa using hlt) (fun j hj=>HP.out j hj _) (by unfold okS;exact hd)]
  ·have hks:k=s.size:=by omega
   have HE:Hid (dgFw s.data.toList=s.size):=by
    show dgFw s.data.toList=s.size
    rw [fw_all s.data.toList (fun j hj=>HP.out j (by simp at hj;have:s.size=s.data.size:=rfl;omega) hj)]
    simp
   clear hks
   go_wp2
   go_ret
   exact ⟨ret_int (by rw [HE.out]),rfl⟩
def cutP (l:List UInt8):List UInt8:=Lib.trimPrefix l dgPre
def hasP (l:List UInt8):Bool:=Lib.hasPrefix l dgPre
theorem dgCut_any (s:ByteArray) (w:World):Calls Tryz.prog 76 #[.string s,.string ⟨#[115,104,97,50,53,54,58]⟩] w fun e w'=>e=.returned (.tuple #[.string ⟨(cutP s.data.toList).toArray⟩,.bool (hasP s.data.toList)])/\w'=w :=
 Any.strings_CutPrefix Tryz.lays103 s _ w
theorem fw_list (l:List UInt8) (w:World) (hs:l.length<=maxLen) :
  Calls Tryz.prog 77 #[.string ⟨l.toArray⟩] w fun e w'=>e=.returned (.int .i64 (dgFw l))/\w'=w :=
 fw_any ⟨l.toArray⟩ w (by simpa [ByteArray.size] using hs)
def dgChk (l:List UInt8):Bool:=hasP l && (decide ((cutP l).length=64) && decide (dgFw (cutP l)=(cutP l).length))
set_option maxHeartbeats 400000 in
theorem dgCheck_any (s:ByteArray) (w:World) :
  Calls Tryz.prog 53 #[.string s] w fun e w'=>e=.returned (.bool (dgChk s.data.toList))/\w'=w:=by
 by_cases hp:hasP s.data.toList=true
 ·by_cases hl:(cutP s.data.toList).length=64
  ·have hl':(((cutP s.data.toList).length:Int) == 64)=true:=by rw [hl];rfl
   have HE:Hid (dgChk s.data.toList=decide (dgFw (cutP s.data.toList)=(cutP s.data.toList).length)):=by
    show dgChk s.data.toList=_
    unfold dgChk;rw [hp,hl];rfl
   have hm:(cutP s.data.toList).length<=maxLen:=by unfold maxLen;omega
   clear hl
   go_enter Tryz.func53,Tryz.ntmps53
   go_wp2_with (first | (go_at_call 76;refine (dgCut_any _ _).mono ?_;rintro e w' ⟨rfl,rfl⟩) | (go_at_call 77;refine (fw_list _ _ hm).mono ?_;rintro e w' ⟨rfl,rfl⟩))
   go_ret
   refine ⟨ret_bool ?_,rfl⟩
   rw [HE.out,Bool.eq_iff_iff]
   simp;omega
  ·have hl':(((cutP s.data.toList).length:Int) == 64)=false:=by simp;omega
   have HE:Hid (dgChk s.data.toList=false):=by
    show dgChk s.data.toList=_
    unfold dgChk;rw [hp,decide_eq_false hl];rfl
   clear hl
   go_enter Tryz.func53,Tryz.ntmps53
   go_wp2_with (first | (go_at_call 76;refine (dgCut_any _ _).mono ?_;rintro e w' ⟨rfl,rfl⟩))
   go_ret
   exact ⟨ret_bool HE.out.symm,rfl⟩
 ·have hp':hasP s.data.toList=false:=by simpa using hp
  have HE:Hid (dgChk s.data.toList=false):=by
   show dgChk s.data.toList=_
   unfold dgChk;rw [hp'];rfl
  clear hp
  go_enter Tryz.func53,Tryz.ntmps53
  go_wp2_with (first | (go_at_call 76;refine (dgCut_any _ _).mono ?_;rintro e w' ⟨rfl,rfl⟩))
  go_ret
  exact ⟨ret_bool HE.out.symm,rfl⟩
set_option maxHeartbeats 400000 in
theorem isDigest_any (s:ByteArray) (w:World) (hs:s.size<=maxLen) :
  Calls Tryz.prog 43 #[.string s] w fun e w'=>e=.returned (.bool (isDig s.data.toList))/\w'=w:=by
 unfold maxLen at hs
 by_cases hl:s.size=71
 ·have hl':((s.size:Int) != 71)=false:=by simp;omega
  have h7:7<=s.size:=by omega
  by_cases hq:s.data.toList.take 7=dgPre
  ·have hq':(!(s.extract 0 7).toList == [115,104,97,50,53,54,58])=false:=by rw [ex7,hq];rfl
   have HE:Hid (isDig s.data.toList=decide (dgFw (s.data.toList.drop 7)=(s.data.toList.drop 7).length)):=dig_lead _ (by simpa using hl) hq
   clear hl hq
   go_enter Tryz.func43,Tryz.ntmps43
   go_wp2
   go_loop [3] (fun i=>∃k:Nat,7<=k/\k<=s.size/\i=.int .i64 k/\∀j,(hj:j < k)->7<=j->(hz:j < s.data.toList.length)->okS s.data.toList[j]=true) (fun i=>s.size - (intOf i).toNat)
   case atStart=>exact ⟨7,by omega,h7,rfl,fun j hj h7'=>absurd hj (by omega)⟩
   case round =>
    obtain ⟨k,hk7,hk,rfl,hp⟩:=hrel
    have HP:Hid (∀j,(hj:j < k)->7<=j->(hz:j < s.data.toList.length)->okS s.data.toList[j]=true):=hp
    clear hp
    by_cases hlt:k < s.size
    ·have hb256:(s[k].toNat:Int)<=255:=by have:=s[k].toNat_lt;omega
     by_cases hb:0<=sg (s[k].toNat:Int)
     ·go_wp2_with (go_at_call 65;refine (dgSign_any _ _ (by omega) (by omega)).mono ?_;rintro e w' ⟨rfl,rfl⟩)
      go_round
      case rel =>
       refine ⟨k+1,by omega,by omega,by go_num,fun j hj h7 hz=>?_⟩
       by_cases hjk:j < k
       ·exact HP.out j hjk h7 hz
       ·have e:j=k:=by omega
        subst e
        rw [okS_iff]
        exact hb
      case measure=>simp [intOf];omega
     ·have hbn:sg (s[k].toNat:Int) < 0:=by omega
      have hd:decide (0<=sg (s[k].toNat:Int))=false:=by simpa using hb
      have HF:Hid (isDig s.data.toList=false):=by
       show isDig s.data.toList=false
       rw [HE.out]
       exact fw_drop_no _ k hk7 (by simpa using hlt) HP.out hd
      clear hb hd
      go_wp2_with (go_at_call 65;refine (dgSign_any _ _ (by omega) (by omega)).mono ?_;rintro e w' ⟨rfl,rfl⟩)
      go_ret
      exact ⟨ret_bool HF.out.symm,rfl⟩
    ·have HF:Hid (isDig s.data.toList=true):=by
      show isDig s.data.toList=true
      rw [HE.out]
      exact fw_drop_yes _ (fun j h7 hz=>HP.out j (by simp at hz;have:s.size=s.data.size:=rfl;omega) h7 hz)
     go_wp2
     go_ret
     exact ⟨ret_bool HF.out.symm,rfl⟩
  ·have hq':(!(s.extract 0 7).toList == [115,104,97,50,53,54,58])=true:=by rw [ex7];simpa [dgPre] using hq
   have HE:Hid (isDig s.data.toList=false):=dig_not _ hq
   clear hl hq
   go_enter Tryz.func43,Tryz.ntmps43
   go_wp2
   go_ret
   exact ⟨ret_bool HE.out.symm,rfl⟩
 ·have hl':((s.size:Int) != 71)=true:=by simp;omega
  have HE:Hid (isDig s.data.toList=false):=by
   show isDig s.data.toList=_
   unfold isDig;rw [decide_eq_false (by simpa using hl)];rfl
  clear hl
  go_enter Tryz.func43,Tryz.ntmps43
  go_wp2
  go_ret
  exact ⟨ret_bool HE.out.symm,rfl⟩
theorem chk_isDig (l:List UInt8):dgChk l=isDig l:=by
 unfold dgChk isDig hasP cutP Lib.trimPrefix Lib.hasPrefix
 by_cases h:l.take 7=dgPre
 ·have hp:List.isPrefixOf dgPre l=true:=by
   rw [List.isPrefixOf_iff_prefix,<-h]
   exact List.take_prefix _ _
  have h7:7<=l.length:=by
   have:=congrArg List.length h
   simp [dgPre] at this
   omega
  simp only [hp,if_true]
  rw [show dgPre.length=7 from rfl,h]
  simp only [Bool.true_and,beq_self_eq_true,Bool.and_true]
  congr 1
  simp
  omega
 ·have hp:List.isPrefixOf dgPre l=false:=by
   rw [Bool.eq_false_iff]
   intro hp
   rw [List.isPrefixOf_iff_prefix] at hp
   apply h
   have:=List.prefix_iff_eq_take.1 hp
   rw [this]
   rfl
  rw [hp,show (l.take 7 == dgPre)=false from by simpa using h]
  simp
open Go.RowKit
set_option linter.unusedVariables false
set_option maxHeartbeats 400000 in
theorem rdigit_any (c:UInt8) (w:World):Calls Tryz.prog 63 #[.int .u8 (c.toNat:Int)] w fun e w'=>e=.returned (.bool (isD c))/\w'=w:=by
 go_enter Tryz.func63,Tryz.ntmps63
 go_wp2
 all_goals go_ret
 all_goals (refine ⟨ret_bool ?_,rfl⟩;rw [Bool.eq_iff_iff];unfold isD;simp;omega)
set_option maxHeartbeats 400000 in
theorem rpartByte_any (c:UInt8) (w:World):Calls Tryz.prog 144 #[.int .u8 (c.toNat:Int)] w fun e w'=>e=.returned (.bool (isP c))/\w'=w:=by
 go_enter Tryz.func144,Tryz.ntmps144
 go_wp2_with (go_at_call 63;refine (rdigit_any _ _).mono ?_;rintro e w' ⟨rfl,rfl⟩)
 all_goals go_ret
 all_goals (refine ⟨ret_bool ?_,rfl⟩;rw [Bool.eq_iff_iff];unfold isP;simp_all;try omega)
set_option maxHeartbeats 400000 in
theorem rdigits_any (s:ByteArray) (w:World) (hs:s.size < 2 ^ 62) :
  Calls Tryz.prog 132 #[.string s] w fun e w'=>e=.returned (.bool (s.data.toList.all isD))/\w'=w:=by
 obtain ⟨R,hR⟩:∃R,R=s.data.toList.all isD:=⟨_,rfl⟩
 have HR:Hid (R=s.data.toList.all isD):=hR
 rw [<-hR]
 clear hR
 go_enter Tryz.func132,Tryz.ntmps132
 go_wp2
 go_loop [3] (fun i=>∃k:Nat,k<=s.size/\i=.int .i64 k/\∀j,(hj:j < s.size)->j < k->isD s[j]=true) (fun i=>s.size - (intOf i).toNat)
 case atStart=>exact ⟨0,Nat.zero_le _,rfl,fun j hj h=>absurd h (by omega)⟩
 case round =>
  obtain ⟨k,hk,rfl,hp⟩:=hrel
  have HP:Hid (∀j,(hj:j < s.size)->j < k->isD s[j]=true):=hp
  clear hp
  by_cases hlt:k < s.size
  ·cases hd:isD s[k] with
   | true =>
    go_wp2_with (go_at_call 63;refine (rdigit_any _ _).mono ?_;rintro e w' ⟨rfl,rfl⟩)
    go_round
    case rel =>
     refine ⟨k+1,by omega,by go_num,fun j hj hjk=>?_⟩
     by_cases hjk':j < k
     ·exact HP.out j hj hjk'
     ·have e:j=k:=by omega
      subst e
      exact hd
    case measure=>simp [intOf];omega
   | false =>
    have HN:Hid (R=false):=by
     show R=false
     rw [HR.out,List.all_eq_false]
     exact ⟨s[k],List.mem_of_getElem? (get_data s k hlt),by simp [hd]⟩
    go_wp2_with (go_at_call 63;refine (rdigit_any _ _).mono ?_;rintro e w' ⟨rfl,rfl⟩)
    go_ret
    exact ⟨ret_bool HN.out.symm,rfl⟩
  ·have HN:Hid (R=true):=by
    show R=true
    rw [HR.out,List.all_eq_true]
    intro c hc
    obtain ⟨j,hj,rfl⟩:=List.getElem_of_mem hc
    exact HP.out j (by simpa using hj) (by simp at hj;have:s.size=s.data.size:=rfl;omega)
   clear hk
   go_wp2
   go_ret
   exact ⟨ret_bool HN.out.symm,rfl⟩
open Go.RowKit
set_option linter.unusedVariables false
def isL (c:UInt8):Bool:=decide (97<=c.toNat/\c.toNat<=122)
def isN (c:UInt8):Bool:=isL c || isD c || decide (c.toNat=45) || decide (c.toNat=95)
def NameP (s:ByteArray):Prop:=1<=s.size/\s.size<=30/\(∀h:0 < s.size,isL s[0]=true)/\∀j,(hj:j < s.size)->1<=j->isN s[j]=true
open Classical in
noncomputable def nameB (s:ByteArray):Bool:=decide (NameP s)
theorem nameB_t {s:ByteArray} (h:NameP s):nameB s=true:=by simp [nameB,h]
theorem nameB_f {s:ByteArray} (h:¬ NameP s):nameB s=false:=by simp [nameB,h]
set_option maxHeartbeats 400000 in
theorem isLetter_any (c:UInt8) (w:World):Calls Tryz.prog 74 #[.int .u8 (c.toNat:Int)] w fun e w'=>e=.returned (.bool (isL c))/\w'=w:=by
 go_enter Tryz.func74,Tryz.ntmps74
 go_wp2
 all_goals go_ret
 all_goals (refine ⟨ret_bool ?_,rfl⟩;rw [Bool.eq_iff_iff];simp_all [isL] <;> omega)
set_option maxHeartbeats 400000 in
theorem isNameByte_any (c:UInt8) (w:World):Calls Tryz.prog 75 #[.int .u8 (c.toNat:Int)] w fun e w'=>e=.returned (.bool (isN c))/\w'=w:=by
 go_enter Tryz.func75,Tryz.ntmps75
 go_wp2_with (first | (go_at_call 74;refine (isLetter_any _ _).mono ?_;rintro e w' ⟨rfl,rfl⟩))
 all_goals go_ret
 all_goals (refine ⟨ret_bool ?_,rfl⟩;rw [Bool.eq_iff_iff];simp_all [isN,isD] <;> omega)
set_option maxHeartbeats 400000 in
theorem rletter_any (c:UInt8) (w:World):Calls Tryz.prog 62 #[.int .u8 (c.toNat:Int)] w fun e w'=>e=.returned (.bool (isL c))/\w'=w:=by
 go_enter Tryz.func62,Tryz.ntmps62
 go_wp2
 all_goals go_ret
 all_goals (refine ⟨ret_bool ?_,rfl⟩;rw [Bool.eq_iff_iff];simp_all [isL] <;> omega)
set_option maxHeartbeats 4000000 in
theorem name_any (s:ByteArray) (w:World) (hs:s.size < 2 ^ 62) :
  Calls Tryz.prog 51 #[.string s] w fun e w'=>e=.returned (.bool (nameB s))/\w'=w:=by
 obtain ⟨R,hR⟩:∃R,R=nameB s:=⟨_,rfl⟩
 have HR:Hid (R=nameB s):=hR
 rw [<-hR]
 clear hR
 by_cases h0:s.size=0
 ·have HN:Hid (R=false):=HR.out.trans (nameB_f fun h=>absurd h.1 (by omega))
  go_enter Tryz.func51,Tryz.ntmps51
  go_wp2
  go_ret
  exact ⟨ret_bool HN.out.symm,rfl⟩
 by_cases h30:30 < s.size
 ·have HN:Hid (R=false):=HR.out.trans (nameB_f fun h=>absurd h.2.1 (by omega))
  have h1:¬ s.size < 1:=by omega
  go_enter Tryz.func51,Tryz.ntmps51
  go_wp2
  go_ret
  exact ⟨ret_bool HN.out.symm,rfl⟩
 have hpos:0 < s.size:=by omega
 have g1:((s.size:Int) == 0)=false:=by rw [beq_eq_false_iff_ne];omega
 have g2:decide (30 < (s.size:Int))=false:=by rw [decide_eq_false_iff_not];omega
 have g3:decide ((s.size:Int) < 1)=false:=by rw [decide_eq_false_iff_not];omega
 cases hl:isL s[0] with
 | false =>
  have HN:Hid (R=false):=HR.out.trans (nameB_f fun h=>by have:=h.2.2.1 hpos;rw [hl] at this;cases this)
  go_enter Tryz.func51,Tryz.ntmps51
  go_wp2_with (first | (go_at_call 74;refine (isLetter_any _ _).mono ?_;rintro e w' ⟨rfl,rfl⟩) | (go_at_call 75;refine (isNameByte_any _ _).mono ?_;rintro e w' ⟨rfl,rfl⟩))
  go_ret
  exact ⟨ret_bool HN.out.symm,rfl⟩
 | true =>
  go_enter Tryz.func51,Tryz.ntmps51
  go_wp2_with (first | (go_at_call 74;refine (isLetter_any _ _).mono ?_;rintro e w' ⟨rfl,rfl⟩) | (go_at_call 75;refine (isNameByte_any _ _).mono ?_;rintro e w' ⟨rfl,rfl⟩))
  go_loop [3] (fun i=>∃k:Nat,1<=k/\k<=s.size/\i=.int .i64 k/\∀j,(hj:j < s.size)->j < k->1<=j->isN s[j]=true) (fun i=>s.size - (intOf i).toNat)
  case atStart=>exact ⟨1,Nat.le_refl _,by omega,rfl,fun j hj h h'=>absurd h (by omega)⟩
  case round =>
   obtain ⟨k,hk1,hk,rfl,hp⟩:=hrel
   have HP:Hid (∀j,(hj:j < s.size)->j < k->1<=j->isN s[j]=true):=hp
   clear hp
   clear g1 g2 g3
   by_cases hlt:k < s.size
   ·cases hd:isN s[k] with
    | true =>
     go_wp2_with (first | (go_at_call 74;refine (isLetter_any _ _).mono ?_;rintro e w' ⟨rfl,rfl⟩) | (go_at_call 75;refine (isNameByte_any _ _).mono ?_;rintro e w' ⟨rfl,rfl⟩))
     all_goals go_round
     case rel =>
      refine ⟨k+1,by omega,by omega,by go_num,fun j hj hjk hj1=>?_⟩
      by_cases hjk':j < k
      ·exact HP.out j hj hjk' hj1
      ·have e:j=k:=by omega
       subst e
       exact hd
     case measure=>simp [intOf];omega
    | false =>
     have HN:Hid (R=false):=HR.out.trans (nameB_f fun h=>by have:=h.2.2.2 k hlt hk1;rw [hd] at this;cases this)
     go_wp2_with (first | (go_at_call 74;refine (isLetter_any _ _).mono ?_;rintro e w' ⟨rfl,rfl⟩) | (go_at_call 75;refine (isNameByte_any _ _).mono ?_;rintro e w' ⟨rfl,rfl⟩))
     go_ret
     exact ⟨ret_bool HN.out.symm,rfl⟩
   ·have HN:Hid (R=true):=HR.out.trans (nameB_t ⟨by omega,by omega,fun _=>hl,fun j hj h=>HP.out j hj (by omega) h⟩)
    clear hk
    go_wp2
    go_ret
    exact ⟨ret_bool HN.out.symm,rfl⟩
set_option maxHeartbeats 4000000 in
theorem rname_any (s:ByteArray) (w:World) (hs:s.size < 2 ^ 62) :
  Calls Tryz.prog 41 #[.string s] w fun e w'=>e=.returned (.bool (nameB s))/\w'=w:=by
 obtain ⟨R,hR⟩:∃R,R=nameB s:=⟨_,rfl⟩
 have HR:Hid (R=nameB s):=hR
 rw [<-hR]
 clear hR
 by_cases h0:s.size=0
 ·have HN:Hid (R=false):=HR.out.trans (nameB_f fun h=>absurd h.1 (by omega))
  go_enter Tryz.func41,Tryz.ntmps41
  go_wp2
  go_ret
  exact ⟨ret_bool HN.out.symm,rfl⟩
 by_cases h30:30 < s.size
 ·have HN:Hid (R=false):=HR.out.trans (nameB_f fun h=>absurd h.2.1 (by omega))
  have h1:¬ s.size < 1:=by omega
  go_enter Tryz.func41,Tryz.ntmps41
  go_wp2
  go_ret
  exact ⟨ret_bool HN.out.symm,rfl⟩
 have hpos:0 < s.size:=by omega
 have g1:((s.size:Int) == 0)=false:=by rw [beq_eq_false_iff_ne];omega
 have g2:decide (30 < (s.size:Int))=false:=by rw [decide_eq_false_iff_not];omega
 have g3:decide ((s.size:Int) < 1)=false:=by rw [decide_eq_false_iff_not];omega
 cases hl:isL s[0] with
 | false =>
  have HN:Hid (R=false):=HR.out.trans (nameB_f fun h=>by have:=h.2.2.1 hpos;rw [hl] at this;cases this)
  go_enter Tryz.func41,Tryz.ntmps41
  go_wp2_with (first | (go_at_call 62;refine (rletter_any _ _).mono ?_;rintro e w' ⟨rfl,rfl⟩) | (go_at_call 63;refine (rdigit_any _ _).mono ?_;rintro e w' ⟨rfl,rfl⟩))
  go_ret
  exact ⟨ret_bool HN.out.symm,rfl⟩
 | true =>
  go_enter Tryz.func41,Tryz.ntmps41
  go_wp2_with (first | (go_at_call 62;refine (rletter_any _ _).mono ?_;rintro e w' ⟨rfl,rfl⟩) | (go_at_call 63;refine (rdigit_any _ _).mono ?_;rintro e w' ⟨rfl,rfl⟩))
  go_loop [3] (fun i=>∃k:Nat,1<=k/\k<=s.size/\i=.int .i64 k/\∀j,(hj:j < s.size)->j < k->1<=j->isN s[j]=true) (fun i=>s.size - (intOf i).toNat)
  case atStart=>exact ⟨1,Nat.le_refl _,by omega,rfl,fun j hj h h'=>absurd h (by omega)⟩
  case round =>
   obtain ⟨k,hk1,hk,rfl,hp⟩:=hrel
   have HP:Hid (∀j,(hj:j < s.size)->j < k->1<=j->isN s[j]=true):=hp
   clear hp
   clear g1 g2 g3
   by_cases hlt:k < s.size
   ·cases hd:isN s[k] with
    | true =>
     rcases Bool.eq_false_or_eq_true (isL s[k]) with a1 | a1
     ·go_wp2_with (first | (go_at_call 62;refine (rletter_any _ _).mono ?_;rintro e w' ⟨rfl,rfl⟩) | (go_at_call 63;refine (rdigit_any _ _).mono ?_;rintro e w' ⟨rfl,rfl⟩))
      go_round
      case rel =>
       refine ⟨k+1,by omega,by omega,by go_num,fun j hj hjk hj1=>?_⟩
       by_cases hjk':j < k
       ·exact HP.out j hj hjk' hj1
       ·have e:j=k:=by omega
        subst e
        exact hd
      case measure=>simp [intOf];omega
     rcases Bool.eq_false_or_eq_true (isD s[k]) with a2 | a2
     ·go_wp2_with (first | (go_at_call 62;refine (rletter_any _ _).mono ?_;rintro e w' ⟨rfl,rfl⟩) | (go_at_call 63;refine (rdigit_any _ _).mono ?_;rintro e w' ⟨rfl,rfl⟩))
      go_round
      case rel =>
       refine ⟨k+1,by omega,by omega,by go_num,fun j hj hjk hj1=>?_⟩
       by_cases hjk':j < k
       ·exact HP.out j hj hjk' hj1
       ·have e:j=k:=by omega
        subst e
        exact hd
      case measure=>simp [intOf];omega
     by_cases a3:s[k].toNat=45
     ·have b3:((s[k].toNat:Int) != 45)=false:=by rw [a3];rfl
      have b5:((s[k].toNat:Int) != 95)=true:=by rw [a3];rfl
      clear a3
      go_wp2_with (first | (go_at_call 62;refine (rletter_any _ _).mono ?_;rintro e w' ⟨rfl,rfl⟩) | (go_at_call 63;refine (rdigit_any _ _).mono ?_;rintro e w' ⟨rfl,rfl⟩))
      go_round
      case rel =>
       refine ⟨k+1,by omega,by omega,by go_num,fun j hj hjk hj1=>?_⟩
       by_cases hjk':j < k
       ·exact HP.out j hj hjk' hj1
       ·have e:j=k:=by omega
        subst e
        exact hd
      case measure=>simp [intOf];omega
     ·have b3:((s[k].toNat:Int) != 45)=true:=by rw [bne_iff_ne];omega
      have b4:((s[k].toNat:Int) != 95)=false:=by unfold isN at hd;simp [a1,a2,a3] at hd;rw [hd];rfl
      clear a3
      go_wp2_with (first | (go_at_call 62;refine (rletter_any _ _).mono ?_;rintro e w' ⟨rfl,rfl⟩) | (go_at_call 63;refine (rdigit_any _ _).mono ?_;rintro e w' ⟨rfl,rfl⟩))
      go_round
      case rel =>
       refine ⟨k+1,by omega,by omega,by go_num,fun j hj hjk hj1=>?_⟩
       by_cases hjk':j < k
       ·exact HP.out j hj hjk' hj1
       ·have e:j=k:=by omega
        subst e
        exact hd
      case measure=>simp [intOf];omega
    | false =>
     have HN:Hid (R=false):=HR.out.trans (nameB_f fun h=>by have:=h.2.2.2 k hlt hk1;rw [hd] at this;cases this)
     obtain ⟨a1,a2,a3,a4⟩:isL s[k]=false/\isD s[k]=false/\¬ s[k].toNat=45/\¬ s[k].toNat=95:=by
      unfold isN at hd;simpa [and_assoc] using hd
     have b3:((s[k].toNat:Int) != 45)=true:=by rw [bne_iff_ne];omega
     have b4:((s[k].toNat:Int) != 95)=true:=by rw [bne_iff_ne];omega
     clear a3 a4
     go_wp2_with (first | (go_at_call 62;refine (rletter_any _ _).mono ?_;rintro e w' ⟨rfl,rfl⟩) | (go_at_call 63;refine (rdigit_any _ _).mono ?_;rintro e w' ⟨rfl,rfl⟩))
     go_ret
     exact ⟨ret_bool HN.out.symm,rfl⟩
   ·have HN:Hid (R=true):=HR.out.trans (nameB_t ⟨by omega,by omega,fun _=>hl,fun j hj h=>HP.out j hj (by omega) h⟩)
    clear hk
    go_wp2
    go_ret
    exact ⟨ret_bool HN.out.symm,rfl⟩
end Go.Proofs.YtpeghomkaphdcaaGreatDoor
namespace Go.Proofs
open Go.Shelf
def Tryz.lays99_ren:Go.Shelf.Ren:=⟨fun | 99=>166 | 206=>135 | n=>n,fun | 22=>130 | 23=>190 | 24=>110 | 25=>111 | 27=>79 | 28=>165 | 31=>40 | 32=>112 | 33=>90 | 37=>53 | 40=>215 | 41=>95 | 42=>153 | 43=>109 | 46=>102 | 47=>101 | 48=>98 | 51=>134 | 52=>133 | 53=>136 | 54=>135 | 55=>204 | 59=>167 | 60=>168 | 63=>207 | 64=>210 | 67=>94 | 68=>143 | 69=>67 | 70=>52 | 71=>54 | 72=>55 | 73=>116 | 74=>63 | 75=>64 | 76=>65 | 77=>66 | 80=>68 | 81=>120 | 83=>81 | 84=>115 | 100=>84 | 101=>49 | 102=>70 | 103=>39 | 104=>83 | 105=>205 | 106=>206 | 111=>166 | 114=>175 | 115=>196 | 116=>197 | 117=>198 | 118=>199 | 119=>211 | 122=>195 | 123=>200 | 124=>201 | 127=>85 | 131=>72 | 135=>100 | 137=>212 | 138=>213 | 139=>214 | 146=>208 | 151=>209 | 164=>103 | 165=>104 | 166=>179 | 171=>149 | 172=>150 | 173=>151 | 174=>152 | 182=>126 | 183=>127 | 188=>125 | 189=>128 | 190=>129 | 191=>131 | 192=>132 | 211=>176 | 212=>177 | 213=>178 | 218=>154 | 219=>155 | 220=>156 | 222=>158 | 224=>157 | 225=>159 | 228=>180 | 229=>181 | 231=>182 | 232=>202 | 233=>203 | 238=>216 | 239=>217 | 240=>218 | 241=>219 | 242=>220 | 243=>221 | 244=>222 | 245=>223 | 246=>224 | 247=>225 | 248=>226 | 249=>227 | n=>n,fun | 3=>4 | 4=>5 | 17=>0 | 18=>2 | 19=>3 | n=>n⟩
set_option maxRecDepth 100000 in
theorem Tryz.lays99:Go.Proofs.Lays.n99 Tryz.prog Tryz.lays99_ren:={
 mixed:=by kernel_rfl
 f99:=Tryz.func166.trans (congrArg some (by kernel_rfl))
 f206:=Tryz.func135.trans (congrArg some (by kernel_rfl))
 t3:=Tryz.underlying3
 a3:=Tryz.isAgg3
 z3:=Tryz.sizeOf3
 v3:=Tryz.zeroValue3
 t4:=Tryz.underlying4
 a4:=Tryz.isAgg4
 z4:=Tryz.sizeOf4
 v4:=Tryz.zeroValue4
 t9:=Tryz.underlying9
 a9:=Tryz.isAgg9
 z9:=Tryz.sizeOf9
 v9:=Tryz.zeroValue9 }
end Go.Proofs
namespace Go.Proofs.YtpeghomkaphdcaaGreatDoor
open Go.RowKit
set_option linter.unusedVariables false
set_option maxHeartbeats 400000 in
theorem isPartByte_any (c:UInt8) (w:World):Calls Tryz.prog 167 #[.int .u8 (c.toNat:Int)] w fun e w'=>e=.returned (.bool (isP c))/\w'=w:=by
 go_enter Tryz.func167,Tryz.ntmps167
 go_wp2_with (go_at_call 157;refine (isDigit_any _ _).mono ?_;rintro e w' ⟨rfl,rfl⟩)
 all_goals go_ret
 all_goals (refine ⟨ret_bool ?_,rfl⟩;rw [Bool.eq_iff_iff];unfold isP;simp_all;try omega)
def RS (b:Nat) (s:ByteArray) (i:Nat) (w:World):Prop:=∃t,w.heap[b]?=some (.cells #[.string s,.int .i64 (i:Int)] t (0,0))
theorem RS.c0 {b:Nat} {s:ByteArray} {i:Nat} {w:World} (h:RS b s i w):w.cell? ⟨b,0,none⟩=some (.string s):=by obtain ⟨t,h⟩:=h;rw [Lib.cell_of_heap h];rfl
theorem RS.c1 {b:Nat} {s:ByteArray} {i:Nat} {w:World} (h:RS b s i w):w.cell? ⟨b,1,none⟩=some (.int .i64 (i:Int)):=by obtain ⟨t,h⟩:=h;rw [Lib.cell_of_heap h];rfl
theorem RS.f1 {b:Nat} {s:ByteArray} {i:Nat} {w:World} (h:RS b s i w):w.frozen? ⟨b,1,none⟩=false:=by obtain ⟨t,h⟩:=h;exact Lib.frozen_of_heap h 1
theorem RS.drew {b:Nat} {s:ByteArray} {i:Nat} {w:World} (h:RS b s i w) (n:Nat):RS b s i (w.drewN n):=h
theorem RS.set {b:Nat} {s:ByteArray} {i:Nat} {w:World} (h:RS b s i w) (j:Nat):RS b s j (w.setCell ⟨b,1,none⟩ (.int .i64 (j:Int))):=by
 obtain ⟨t,h⟩:=h
 exact ⟨t,by simp [World.setCell,Array.getElem?_modify,h]⟩
theorem prefix_any (s p:ByteArray) (w:World) :
  Calls Tryz.prog 166 #[.string s,.string p] w fun e w'=>e=.returned (.bool (Lib.hasPrefix s.data.toList p.data.toList))/\w'=w:=Any.strings_HasPrefix Tryz.lays99 s p w
set_option maxHeartbeats 400000 in
theorem next_any (b:Nat) (s t:ByteArray) (i:Nat) (w:World) (hi:i<=s.size) (h:RS b s i w) :
  Calls Tryz.prog 155 #[.pointer (some ⟨b,0,none⟩),.string t] w fun e w'=>e=.returned (.bool (Lib.hasPrefix (s.data.toList.drop i) t.data.toList))/\∃n,w'=w.drewN n:=by
 have h0:=h.c0
 have h1:=h.c1
 obtain ⟨X,hX⟩:∃X:ByteArray,X=⟨(s.data.toList.drop i).toArray⟩:=⟨_,rfl⟩
 have sl:∀wx,(Instr.slice 9 (.string s) (some (.int .i64 (i:Int))) none none).run Tryz.prog wx=.ok (.string X) wx:=fun wx=>by rw [hX];exact run_suf s i hi wx
 obtain ⟨p,hp⟩:∃p,Lib.hasPrefix (s.data.toList.drop i) t.data.toList=p:=⟨_,rfl⟩
 have CP:Hid (∀w,Calls Tryz.prog 166 #[.string X,.string t] w fun e w'=>e=.returned (.bool p)/\w'=w):=fun w=>by
  rw [<-hp]
  have:=prefix_any X t w
  rw [hX] at this ⊢
  exact this
 rw [hp]
 clear h hX hp hi
 go_enter Tryz.func155,Tryz.ntmps155
 go_wp2
 go_quiet (first | (go_at_call 166;exact Calls.quiet_of_same (CP.out _)))
 go_wp2
 go_ret
 exact ⟨rfl,_,rfl⟩
set_option maxHeartbeats 400000 in
theorem take_any (b:Nat) (s t:ByteArray) (i:Nat) (w:World) (hi:i<=s.size) (h:RS b s i w) (hs:s.size < 2 ^ 62) (ht:t.size < 2 ^ 62) :
  Calls Tryz.prog 146 #[.pointer (some ⟨b,0,none⟩),.string t] w fun e w'=>e=.returned (.bool (Lib.hasPrefix (s.data.toList.drop i) t.data.toList))/\RS b s (if Lib.hasPrefix (s.data.toList.drop i) t.data.toList then i+t.size else i) w'/\w.grownBy w' (some b):=by
 obtain ⟨p,hp⟩:∃p,Lib.hasPrefix (s.data.toList.drop i) t.data.toList=p:=⟨_,rfl⟩
 have CN:Hid (Calls Tryz.prog 155 #[.pointer (some ⟨b,0,none⟩),.string t] w fun e w'=>e=.returned (.bool p)/\∃n,w'=w.drewN n):=by
  show Calls _ _ _ _ _
  rw [<-hp];exact next_any b s t i w hi h
 rw [hp]
 have HR:Hid (RS b s i w):=h
 have hw:IntKind.i64.wrap ((i:Int)+(t.size:Int))=((i+t.size:Nat):Int):=by rw [IntKind.wrap_i64];omega
 clear hp h hs ht hi
 cases p with
 | true =>
  go_enter Tryz.func146,Tryz.ntmps146
  go_wp2_with (go_at_call 155;refine CN.out.mono ?_)
  rintro e w1 ⟨rfl,n,hn⟩
  have HR1:Hid (RS b s i w1):=by show RS b s i w1;rw [hn];exact HR.out.drew n
  have HG1:Hid (w.grownBy w1 (some b)):=by show w.grownBy w1 (some b);rw [hn];exact gb_drew (gb_refl w _) n
  have d1:=HR1.out.c1
  have df:=HR1.out.f1
  clear hn
  go_wp2
  go_ret
  exact ⟨rfl,HR1.out.set (i+t.size),gb_set HG1.out _ _⟩
 | false =>
  go_enter Tryz.func146,Tryz.ntmps146
  go_wp2_with (go_at_call 155;refine CN.out.mono ?_)
  rintro e w1 ⟨rfl,n,hn⟩
  have HR1:Hid (RS b s i w1):=by show RS b s i w1;rw [hn];exact HR.out.drew n
  have HG1:Hid (w.grownBy w1 (some b)):=by show w.grownBy w1 (some b);rw [hn];exact gb_drew (gb_refl w _) n
  clear hn
  go_wp2
  go_ret
  exact ⟨rfl,HR1.out,HG1.out⟩
set_option maxHeartbeats 400000 in
theorem ended_any (b:Nat) (s:ByteArray) (i:Nat) (w:World) (h:RS b s i w) :
  Calls Tryz.prog 128 #[.pointer (some ⟨b,0,none⟩)] w fun e w'=>e=.returned (.bool (decide (i=s.size)))/\∃n,w'=w.drewN n:=by
 have h0:=h.c0
 have h1:=h.c1
 clear h
 by_cases hc:i=s.size
 ·have hd:((i:Int) == (s.size:Int))=true:=by simp;omega
  have HD:Hid (decide (i=s.size)=true):=decide_eq_true hc
  rw [HD.out]
  clear hc
  go_enter Tryz.func128,Tryz.ntmps128
  go_wp2
  go_quiet (fail)
  go_wp2
  go_ret
  exact ⟨rfl,_,rfl⟩
 ·have hd:((i:Int) == (s.size:Int))=false:=by simp;omega
  have HD:Hid (decide (i=s.size)=false):=decide_eq_false hc
  rw [HD.out]
  clear hc
  go_enter Tryz.func128,Tryz.ntmps128
  go_wp2
  go_quiet (fail)
  go_wp2
  go_ret
  exact ⟨rfl,_,rfl⟩
theorem prefix_one (l:List UInt8) (i:Nat) (c:UInt8):Lib.hasPrefix (l.drop i) [c]=decide (l[i]?=some c):=by
 have e:l[i]?=(l.drop i)[0]?:=by rw [List.getElem?_drop];rfl
 rw [e]
 cases l.drop i with
 | nil=>rfl
 | cons x r =>
  show (c == x && true)=decide (some x=some c)
  rw [Bool.and_true]
  by_cases h:x=c
  ·subst h;rw [decide_eq_true rfl];exact beq_self_eq_true x
  ·rw [decide_eq_false (fun e=>h (Option.some.inj e))]
   exact beq_eq_false_iff_ne.2 (fun e=>h e.symm)
theorem take_yes (b:Nat) (s:ByteArray) (i:Nat) (c:UInt8) (w:World) (hc:s.data.toList[i]?=some c) (h:RS b s i w) (hs:s.size < 2 ^ 62) :
  Calls Tryz.prog 146 #[.pointer (some ⟨b,0,none⟩),.string ⟨#[c]⟩] w fun e w'=>e=.returned (.bool true)/\RS b s (i+1) w'/\w.grownBy w' (some b):=by
 have hlt:i < s.size:=by have:=(List.getElem?_eq_some_iff.1 hc).1;simpa using this
 have:=take_any b s ⟨#[c]⟩ i w (Nat.le_of_lt hlt) h hs (by show 1 < _;decide)
 rw [show (ByteArray.mk #[c]).data.toList=[c] from rfl,prefix_one,decide_eq_true hc] at this
 exact this
theorem take_no (b:Nat) (s:ByteArray) (i:Nat) (c:UInt8) (w:World) (hi:i<=s.size) (hc:¬ s.data.toList[i]?=some c) (h:RS b s i w) (hs:s.size < 2 ^ 62) :
  Calls Tryz.prog 146 #[.pointer (some ⟨b,0,none⟩),.string ⟨#[c]⟩] w fun e w'=>e=.returned (.bool false)/\RS b s i w'/\w.grownBy w' (some b):=by
 have:=take_any b s ⟨#[c]⟩ i w hi h hs (by show 1 < _;decide)
 rw [show (ByteArray.mk #[c]).data.toList=[c] from rfl,prefix_one,decide_eq_false hc] at this
 exact this
end Go.Proofs.YtpeghomkaphdcaaGreatDoor
