import Derived.Test.YticgahdffjnabaaGreatDoorM06
import Derived.Test.YticgahdffjnabaaGreatDoorM02
set_option linter.unusedVariables false
set_option maxHeartbeats 1600000
namespace Go.Proofs.YticgahdffjnabaaGreatDoor
open Go.RowKit
theorem emp_t2 {a:ByteArray} (h:a.size=0):a.toList.isEmpty=true:=by
 rw [Lib.toList_data,List.isEmpty_iff];exact List.length_eq_zero_iff.1 (by simpa using h)
theorem emp_f2 {a:ByteArray} (h:a.size ≠ 0):a.toList.isEmpty=false:=by
 rw [Lib.toList_data]
 cases hl:a.data.toList with
 | nil=>exact absurd (show a.size=0 from by show a.data.size=0;rw [<-Array.length_toList,hl];rfl) h
 | cons c l=>rfl
theorem RS.grow {b:Nat} {s:ByteArray} {i:Nat} {w w':World} (h:RS b s i w) (hg:w.grownBy w' none):RS b s i w':=by
 obtain ⟨t,h⟩:=h;exact ⟨t,by rw [hg.block b ((hqL h)) (by simp)];exact h⟩
theorem needless_any (s:ByteArray) (w:World):Calls Tryz.prog 89 #[.string s] w fun e w'=>e=.returned (.bool (decide (1 < s.data.toList.length) && decide (s.data.toList[0]?=some 48)))/\w'=w:=by
 by_cases h1:1 < s.size
 ·have h0:0 < s.size:=by omega
  have hl:decide (1 < s.data.toList.length)=true:=by simp;exact h1
  rw [hl,Bool.true_and,get_data s 0 h0]
  cases hz:((s[0].toNat:Int) == 48) with
  | true =>
   have hc:s[0]=48:=UInt8.toNat_inj.1 (by have:=eq_of_beq hz;have e48:(48:UInt8).toNat=48:=rfl;omega);have HZ:Hd (decide (some s[0]=some (48:UInt8))=true):=by show decide _=true;rw [hc];rfl
   rw [HZ.o];clear hc hl;go_enter Tryz.func89,Tryz.ntmps89;go_wp2;go_ret;exact ⟨rfl,rfl⟩
  | false =>
   have HZ:Hd (decide (some s[0]=some (48:UInt8))=false):=by
    show decide _=false;apply decide_eq_false;intro e;rw [Option.some.inj e] at hz;exact absurd hz (by decide)
   rw [HZ.o];clear hl;go_enter Tryz.func89,Tryz.ntmps89;go_wp2;go_ret;exact ⟨rfl,rfl⟩
 ·have hl:decide (1 < s.data.toList.length)=false:=by simp;exact Nat.le_of_not_lt h1
  rw [hl,Bool.false_and];clear hl;go_enter Tryz.func89,Tryz.ntmps89;go_wp2;go_ret;exact ⟨rfl,rfl⟩
theorem skipP (b:Nat) (s:ByteArray) (i:Nat) (w:World) (hi:i<=s.size) (h:RS b s i w) (hs:s.size < 2 ^ 62) :
  Calls Tryz.prog 90 #[.pointer (some ⟨b,0,none⟩),.int .i64 0] w fun e w'=>e=.returned (.int .i64 (rdParts true s.data.toList i).1)/\RS b s (rdParts true s.data.toList i).2 w'/\w.grownBy w' (some b):=by
 have HI:Hd (RS b s i w/\i<=s.size):=⟨h,hi⟩;obtain ⟨E,Q,hEQ⟩:∃E Q,rdParts true s.data.toList i=(E,Q):=⟨_,_,rfl⟩;rw [hEQ];have HEQ:Hd (rdParts true s.data.toList i=(E,Q)):=hEQ;have hsl:s.data.toList.length=s.size:=by simp
 have HSL:Hd (s.data.toList.length=s.size):=hsl;clear h hi hEQ hsl;go_enter Tryz.func90,Tryz.ntmps90;go_wp2;go_loopw [] (fun wr=>∃j:Nat,j<=s.size/\RS b s j wr/\w.grownBy wr (some b)/\rdParts true s.data.toList j=(E,Q)) (fun wr=>s.size - placeOf b wr)
 case atStart=>exact ⟨i,HI.o.2,HI.o.1,gb_refl _ _,HEQ.o⟩
 case round =>
  obtain ⟨j,hj,hrs,hgb,hrd⟩:=hrel;have CR:Hd (Calls Tryz.prog 87 #[.pointer (some ⟨b,0,none⟩),.func (.func 111) #[] #[]] wr fun e w'=>e=.returned (.string ⟨(subT s.data.toList j (runN isP s.data.toList j)).toArray⟩)/\RS b s (j+runN isP s.data.toList j) w'/\wr.grownBy w' (some b)):=run_parts b s j wr hj hrs hs;have HPL:Hd (placeOf b wr=j):=hrs.place;have d1:=hrs.c1;have hle:j+runN isP s.data.toList j<=s.size:=by have:=runN_le isP s.data.toList j (by rw [HSL.o];exact hj);rw [HSL.o] at this;exact this
  have hln:=sub_len s.data.toList j (runN isP s.data.toList j) (by rw [HSL.o];exact hle);rw [rdParts_eq] at hrd;obtain ⟨k,hk⟩:=nm (runN isP s.data.toList j);rw [hk] at CR hrd hle hln;obtain ⟨T,hT⟩:=nm (subT s.data.toList j k);rw [hT] at CR hrd hln;obtain ⟨X,hX⟩:∃X:ByteArray,X=⟨T.toArray⟩:=⟨_,rfl⟩;rw [<-hX] at CR;have HXd:Hd (X.data.toList=T):=by show X.data.toList=T;rw [hX]
  have hXs:X.size=k:=by rw [hX];show T.toArray.size=k;simpa using hln
  have HGB:Hd (w.grownBy wr (some b)):=hgb;have HRS:Hd (RS b s j wr):=hrs;have HRD:Hd ((if k=0 then (2,j) else if badZ true T=true then (2,j) else if s.data.toList[j+k]?=some 46 then rdParts true s.data.toList (j+k+1) else (0,j+k))=(E,Q)):=hrd;clear hk hT hX hgb hrs hrd hln
  by_cases hk0:k=0
  ·have e1:=emp_t2 (hXs.trans hk0);have HZ:Hd (E=2/\Q=j):=by
    have:=HRD.o;rw [if_pos hk0] at this;exact ⟨(congrArg Prod.fst this).symm,(congrArg Prod.snd this).symm⟩
   have HK:Hd (k=0):=hk0;clear hk0 hXs hle;go_wp2_with (go_at_call 87;refine CR.o.mono ?_);rintro e w1 ⟨rfl,hr1,hg1⟩;have HF:Hd (RS b s Q w1/\w.grownBy w1 (some b)):=by
    refine ⟨?_,gb_trans HGB.o hg1⟩;rw [HZ.o.2];rw [HK.o] at hr1;exact hr1
   clear hr1 hg1;go_wp2;go_ret;exact ⟨ret_int HZ.o.1.symm,HF.o.1,HF.o.2⟩
  ·have e1:=emp_f2 (fun h=>hk0 (hXs.symm.trans h));have HNE:Hd (X.data.toList.isEmpty=false):=by show X.data.toList.isEmpty=false;rw [<-Lib.toList_data];exact e1
   have HK:Hd (¬ k=0):=hk0;have hXb:X.size < 2 ^ 62:=by omega
   have HLE:Hd (j+k<=s.size):=hle;clear hk0 hXs hle;go_wp2_with (go_at_call 87;refine CR.o.mono ?_);rintro e w1 ⟨rfl,hr1,hg1⟩;have HR1:Hd (RS b s (j+k) w1):=hr1;have HG1:Hd (w.grownBy w1 (some b)):=gb_trans HGB.o hg1;clear hr1 hg1;have CD:Hd (∀w,Calls Tryz.prog 112 #[.string X] w fun e w'=>e=.returned (.bool (numT X.data.toList))/\w.grownBy w' none):=fun w=>isDigits_any X w hXb
   obtain ⟨dX,hdX⟩:∃d,numT X.data.toList=d:=⟨_,rfl⟩;rw [hdX] at CD;have HDX:Hd (T.all isD=dX):=by
    show T.all isD=dX;rw [<-hdX];unfold numT;rw [HNE.o,HXd.o];rfl
   obtain ⟨z,hz⟩:=nm ((decide (1 < X.data.toList.length) && decide (X.data.toList[0]?=some 48)));have CZ:Hd (∀w,Calls Tryz.prog 89 #[.string X] w fun e w'=>e=.returned (.bool z)/\w'=w):=fun w=>by rw [<-hz];exact needless_any X w
   have HBZ:Hd (badZ true T=(dX && z)):=by
    show badZ true T=_;rw [<-hz,<-HDX.o,HXd.o];rfl
   clear hdX hz;go_wp2_with (go_at_call 112;refine (CD.o _).mono ?_);rintro e w2 ⟨rfl,hg2⟩;replace HR1:Hd (RS b s (j+k) w2):=HR1.o.grow hg2;replace HG1:Hd (w.grownBy w2 (some b)):=gb_trans HG1.o (gb_weak hg2 _);clear hg2
   cases dX with
   | false =>
    have HB:Hd (badZ true T=false):=by show badZ true T=false;rw [HBZ.o];rfl
    cases hc:decide (s.data.toList[j+k]?=some 46) with
    | true =>
     have hc':=of_decide_eq_true hc;have HT:Hd (rdParts true s.data.toList (j+k+1)=(E,Q)):=by
      have:=HRD.o;rw [if_neg HK.o,if_neg (by rw [HB.o];simp),if_pos hc'] at this;exact this
     have CT:Hd (Calls Tryz.prog 66 #[.pointer (some ⟨b,0,none⟩),.string ⟨#[46]⟩] w2 fun e w'=>e=.returned (.bool true)/\RS b s (j+k+1) w'/\w2.grownBy w' (some b)):=take_yes b s (j+k) 46 w2 hc' HR1.o hs;have HLT:Hd (j+k < s.size):=by have:=(List.getElem?_eq_some_iff.1 hc').1;rw [HSL.o] at this;exact this
     clear hc hc';go_wp2_with (first | (go_at_call 66;refine CT.o.mono ?_));rintro e w3 ⟨rfl,hr3,hg3⟩;have HF:Hd (RS b s (j+k+1) w3/\w.grownBy w3 (some b)):=⟨hr3,gb_trans HG1.o hg3⟩;clear hr3 hg3;go_wp2;go_roundw
     case rel=>exact ⟨j+k+1,HLT.o,HF.o.1,HF.o.2,HT.o⟩
     case measure =>
      rw [HPL.o,HF.o.1.place];have:=HLT.o;omega
    | false =>
     have hc':=of_decide_eq_false hc;have HT:Hd (E=0/\Q=j+k):=by
      have:=HRD.o;rw [if_neg HK.o,if_neg (by rw [HB.o];simp),if_neg hc'] at this;exact ⟨(congrArg Prod.fst this).symm,(congrArg Prod.snd this).symm⟩
     have CT:Hd (Calls Tryz.prog 66 #[.pointer (some ⟨b,0,none⟩),.string ⟨#[46]⟩] w2 fun e w'=>e=.returned (.bool false)/\RS b s (j+k) w'/\w2.grownBy w' (some b)):=take_no b s (j+k) 46 w2 HLE.o hc' HR1.o hs;clear hc hc';go_wp2_with (first | (go_at_call 66;refine CT.o.mono ?_));rintro e w3 ⟨rfl,hr3,hg3⟩;have HF:Hd (RS b s (j+k) w3/\w.grownBy w3 (some b)):=⟨hr3,gb_trans HG1.o hg3⟩;clear hr3 hg3;go_wp2;go_ret;exact ⟨ret_int HT.o.1.symm,by rw [HT.o.2];exact HF.o.1,HF.o.2⟩
   | true =>
    cases z with
    | true =>
     have HZ:Hd (E=2/\Q=j):=by
      have:=HRD.o;rw [if_neg HK.o,if_pos (by rw [HBZ.o];rfl)] at this;exact ⟨(congrArg Prod.fst this).symm,(congrArg Prod.snd this).symm⟩
     have f1:=HR1.o.c1;have f2:=HR1.o.f1;go_wp2_with (first | (go_at_call 89;refine (CZ.o _).mono ?_;rintro e w' ⟨rfl,rfl⟩));go_ret;exact ⟨ret_int HZ.o.1.symm,by rw [HZ.o.2];exact HR1.o.set j,gb_set HG1.o _ _⟩
    | false =>
     have HB:Hd (badZ true T=false):=by show badZ true T=false;rw [HBZ.o];rfl
     cases hc:decide (s.data.toList[j+k]?=some 46) with
     | true =>
      have hc':=of_decide_eq_true hc;have HT:Hd (rdParts true s.data.toList (j+k+1)=(E,Q)):=by
       have:=HRD.o;rw [if_neg HK.o,if_neg (by rw [HB.o];simp),if_pos hc'] at this;exact this
      have CT:Hd (Calls Tryz.prog 66 #[.pointer (some ⟨b,0,none⟩),.string ⟨#[46]⟩] w2 fun e w'=>e=.returned (.bool true)/\RS b s (j+k+1) w'/\w2.grownBy w' (some b)):=take_yes b s (j+k) 46 w2 hc' HR1.o hs;have HLT:Hd (j+k < s.size):=by have:=(List.getElem?_eq_some_iff.1 hc').1;rw [HSL.o] at this;exact this
      clear hc hc';go_wp2_with (first | (go_at_call 89;refine (CZ.o _).mono ?_;rintro e w' ⟨rfl,rfl⟩) | (go_at_call 66;refine CT.o.mono ?_));rintro e w3 ⟨rfl,hr3,hg3⟩;have HF:Hd (RS b s (j+k+1) w3/\w.grownBy w3 (some b)):=⟨hr3,gb_trans HG1.o hg3⟩;clear hr3 hg3;go_wp2;go_roundw
      case rel=>exact ⟨j+k+1,HLT.o,HF.o.1,HF.o.2,HT.o⟩
      case measure =>
       rw [HPL.o,HF.o.1.place];have:=HLT.o;omega
     | false =>
      have hc':=of_decide_eq_false hc;have HT:Hd (E=0/\Q=j+k):=by
       have:=HRD.o;rw [if_neg HK.o,if_neg (by rw [HB.o];simp),if_neg hc'] at this;exact ⟨(congrArg Prod.fst this).symm,(congrArg Prod.snd this).symm⟩
      have CT:Hd (Calls Tryz.prog 66 #[.pointer (some ⟨b,0,none⟩),.string ⟨#[46]⟩] w2 fun e w'=>e=.returned (.bool false)/\RS b s (j+k) w'/\w2.grownBy w' (some b)):=take_no b s (j+k) 46 w2 HLE.o hc' HR1.o hs;clear hc hc';go_wp2_with (first | (go_at_call 89;refine (CZ.o _).mono ?_;rintro e w' ⟨rfl,rfl⟩) | (go_at_call 66;refine CT.o.mono ?_));rintro e w3 ⟨rfl,hr3,hg3⟩;have HF:Hd (RS b s (j+k) w3/\w.grownBy w3 (some b)):=⟨hr3,gb_trans HG1.o hg3⟩;clear hr3 hg3;go_wp2;go_ret;exact ⟨ret_int HT.o.1.symm,by rw [HT.o.2];exact HF.o.1,HF.o.2⟩
theorem skipB (b:Nat) (s:ByteArray) (i:Nat) (w:World) (hi:i<=s.size) (h:RS b s i w) (hs:s.size < 2 ^ 62) :
  Calls Tryz.prog 90 #[.pointer (some ⟨b,0,none⟩),.int .i64 1] w fun e w'=>e=.returned (.int .i64 (rdParts false s.data.toList i).1)/\RS b s (rdParts false s.data.toList i).2 w'/\w.grownBy w' (some b):=by
 have HI:Hd (RS b s i w/\i<=s.size):=⟨h,hi⟩;obtain ⟨E,Q,hEQ⟩:∃E Q,rdParts false s.data.toList i=(E,Q):=⟨_,_,rfl⟩;rw [hEQ];have HEQ:Hd (rdParts false s.data.toList i=(E,Q)):=hEQ;have hsl:s.data.toList.length=s.size:=by simp
 have HSL:Hd (s.data.toList.length=s.size):=hsl;clear h hi hEQ hsl;go_enter Tryz.func90,Tryz.ntmps90;go_wp2;go_loopw [] (fun wr=>∃j:Nat,j<=s.size/\RS b s j wr/\w.grownBy wr (some b)/\rdParts false s.data.toList j=(E,Q)) (fun wr=>s.size - placeOf b wr)
 case atStart=>exact ⟨i,HI.o.2,HI.o.1,gb_refl _ _,HEQ.o⟩
 case round =>
  obtain ⟨j,hj,hrs,hgb,hrd⟩:=hrel;have CR:Hd (Calls Tryz.prog 87 #[.pointer (some ⟨b,0,none⟩),.func (.func 111) #[] #[]] wr fun e w'=>e=.returned (.string ⟨(subT s.data.toList j (runN isP s.data.toList j)).toArray⟩)/\RS b s (j+runN isP s.data.toList j) w'/\wr.grownBy w' (some b)):=run_parts b s j wr hj hrs hs;have HPL:Hd (placeOf b wr=j):=hrs.place;have d1:=hrs.c1;have hle:j+runN isP s.data.toList j<=s.size:=by have:=runN_le isP s.data.toList j (by rw [HSL.o];exact hj);rw [HSL.o] at this;exact this
  have hln:=sub_len s.data.toList j (runN isP s.data.toList j) (by rw [HSL.o];exact hle);rw [rdParts_eq] at hrd;obtain ⟨k,hk⟩:=nm (runN isP s.data.toList j);rw [hk] at CR hrd hle hln;obtain ⟨T,hT⟩:=nm (subT s.data.toList j k);rw [hT] at CR hrd hln;obtain ⟨X,hX⟩:∃X:ByteArray,X=⟨T.toArray⟩:=⟨_,rfl⟩;rw [<-hX] at CR;have HXd:Hd (X.data.toList=T):=by show X.data.toList=T;rw [hX]
  have hXs:X.size=k:=by rw [hX];show T.toArray.size=k;simpa using hln
  have HGB:Hd (w.grownBy wr (some b)):=hgb;have HRS:Hd (RS b s j wr):=hrs;have HRD:Hd ((if k=0 then (2,j) else if badZ false T=true then (2,j) else if s.data.toList[j+k]?=some 46 then rdParts false s.data.toList (j+k+1) else (0,j+k))=(E,Q)):=hrd;clear hk hT hX hgb hrs hrd hln
  by_cases hk0:k=0
  ·have e1:=emp_t2 (hXs.trans hk0);have HZ:Hd (E=2/\Q=j):=by
    have:=HRD.o;rw [if_pos hk0] at this;exact ⟨(congrArg Prod.fst this).symm,(congrArg Prod.snd this).symm⟩
   have HK:Hd (k=0):=hk0;clear hk0 hXs hle;go_wp2_with (go_at_call 87;refine CR.o.mono ?_);rintro e w1 ⟨rfl,hr1,hg1⟩;have HF:Hd (RS b s Q w1/\w.grownBy w1 (some b)):=by
    refine ⟨?_,gb_trans HGB.o hg1⟩;rw [HZ.o.2];rw [HK.o] at hr1;exact hr1
   clear hr1 hg1;go_wp2;go_ret;exact ⟨ret_int HZ.o.1.symm,HF.o.1,HF.o.2⟩
  ·have e1:=emp_f2 (fun h=>hk0 (hXs.symm.trans h));have HNE:Hd (X.data.toList.isEmpty=false):=by show X.data.toList.isEmpty=false;rw [<-Lib.toList_data];exact e1
   have HK:Hd (¬ k=0):=hk0;have hXb:X.size < 2 ^ 62:=by omega
   have HLE:Hd (j+k<=s.size):=hle;clear hk0 hXs hle;go_wp2_with (go_at_call 87;refine CR.o.mono ?_);rintro e w1 ⟨rfl,hr1,hg1⟩;have HR1:Hd (RS b s (j+k) w1):=hr1;have HG1:Hd (w.grownBy w1 (some b)):=gb_trans HGB.o hg1;clear hr1 hg1;have HB:Hd (badZ false T=false):=rfl
   cases hc:decide (s.data.toList[j+k]?=some 46) with
   | true =>
    have hc':=of_decide_eq_true hc;have HT:Hd (rdParts false s.data.toList (j+k+1)=(E,Q)):=by
     have:=HRD.o;rw [if_neg HK.o,if_neg (by rw [HB.o];simp),if_pos hc'] at this;exact this
    have CT:Hd (Calls Tryz.prog 66 #[.pointer (some ⟨b,0,none⟩),.string ⟨#[46]⟩] w1 fun e w'=>e=.returned (.bool true)/\RS b s (j+k+1) w'/\w1.grownBy w' (some b)):=take_yes b s (j+k) 46 w1 hc' HR1.o hs;have HLT:Hd (j+k < s.size):=by have:=(List.getElem?_eq_some_iff.1 hc').1;rw [HSL.o] at this;exact this
    clear hc hc';go_wp2_with (first | (go_at_call 66;refine CT.o.mono ?_));rintro e w3 ⟨rfl,hr3,hg3⟩;have HF:Hd (RS b s (j+k+1) w3/\w.grownBy w3 (some b)):=⟨hr3,gb_trans HG1.o hg3⟩;clear hr3 hg3;go_wp2;go_roundw
    case rel=>exact ⟨j+k+1,HLT.o,HF.o.1,HF.o.2,HT.o⟩
    case measure =>
     rw [HPL.o,HF.o.1.place];have:=HLT.o;omega
   | false =>
    have hc':=of_decide_eq_false hc;have HT:Hd (E=0/\Q=j+k):=by
     have:=HRD.o;rw [if_neg HK.o,if_neg (by rw [HB.o];simp),if_neg hc'] at this;exact ⟨(congrArg Prod.fst this).symm,(congrArg Prod.snd this).symm⟩
    have CT:Hd (Calls Tryz.prog 66 #[.pointer (some ⟨b,0,none⟩),.string ⟨#[46]⟩] w1 fun e w'=>e=.returned (.bool false)/\RS b s (j+k) w'/\w1.grownBy w' (some b)):=take_no b s (j+k) 46 w1 HLE.o hc' HR1.o hs;clear hc hc';go_wp2_with (first | (go_at_call 66;refine CT.o.mono ?_));rintro e w3 ⟨rfl,hr3,hg3⟩;have HF:Hd (RS b s (j+k) w3/\w.grownBy w3 (some b)):=⟨hr3,gb_trans HG1.o hg3⟩;clear hr3 hg3;go_wp2;go_ret;exact ⟨ret_int HT.o.1.symm,by rw [HT.o.2];exact HF.o.1,HF.o.2⟩
open Go.RowKit
theorem gb_own {w w1:World} {o:Obj} (h:(w.alloc o).grownBy w1 (some w.heap.size)):w.grownBy w1 none :=
 ⟨h.os,h.tape,h.output,by have:=h.size;simp at this;omega,fun k hk _=>by rw [h.block k (by simp;omega) (by simp;omega)];exact Lib.alloc_old w o k hk⟩
theorem isParts_at (s:ByteArray) (kind:Int) (st:Bool) (w:World) (h0:s.size ≠ 0) (hs:s.size < 2 ^ 62)
  (hk:∀b w,RS b s 0 w->Calls Tryz.prog 90 #[.pointer (some ⟨b,0,none⟩),.int .i64 kind] w fun e w'=>e=.returned (.int .i64 (rdParts st s.data.toList 0).1)/\RS b s (rdParts st s.data.toList 0).2 w'/\w.grownBy w' (some b)) :
  Calls Tryz.prog 135 #[.string s,.int .i64 kind] w fun e w'=>e=.returned (.bool (okParts st s.data.toList))/\w.grownBy w' none:=by
 obtain ⟨R,hR⟩:∃R,R=okParts st s.data.toList:=⟨_,rfl⟩;obtain ⟨E,Q,hEQ⟩:∃E Q,rdParts st s.data.toList 0=(E,Q):=⟨_,_,rfl⟩;have HR:Hd (R=(decide (E=0) && decide (Q=s.size))):=by
  show R=_;have hne:s.data.toList ≠ []:=fun e=>h0 (by show s.data.size=0;rw [<-Array.length_toList,e];rfl)
  rw [hR,<-parts_ok st _ hne,hEQ,Bool.eq_iff_iff];simp [Prod.ext_iff]
 have HK:Hd (∀b w,RS b s 0 w->Calls Tryz.prog 90 #[.pointer (some ⟨b,0,none⟩),.int .i64 kind] w fun e w'=>e=.returned (.int .i64 E)/\RS b s Q w'/\w.grownBy w' (some b)):=by
  intro b w hb;have:=hk b w hb;rw [hEQ] at this;exact this
 rw [<-hR];clear hR hEQ hk h0;go_enter Tryz.func135,Tryz.ntmps135;go_wp2_with (go_at_call 90;refine (HK.o _ _ ⟨_,heap_alloc_new w _⟩).mono ?_);rintro e w1 ⟨rfl,hr1,hg1⟩;have HG:Hd (w.grownBy w1 none):=gb_own hg1;have CE:Hd (Calls Tryz.prog 51 #[.pointer (some ⟨w.heap.size,0,none⟩)] w1 fun e w'=>e=.returned (.bool (decide (Q=s.size)))/\∃n,w'=w1.drewN n):=ended_any _ s Q w1 hr1;clear hg1 hr1
 cases hE:(E == 0) with
 | false =>
  have HZ:Hd (R=false):=by show R=false;rw [HR.o,decide_eq_false (by simpa using hE)];rfl
  go_wp2;go_ret;exact ⟨ret_bool HZ.o.symm,HG.o⟩
 | true =>
  have HZ:Hd (R=decide (Q=s.size)):=by
   show R=_;have h1:E=0:=by simpa using hE
   rw [HR.o,decide_eq_true h1,Bool.true_and]
  obtain ⟨q,hq⟩:=nm (decide (Q=s.size));rw [hq] at CE HZ;clear hq;go_wp2_with (first | (go_at_call 51;refine CE.o.mono ?_));rintro e w2 ⟨rfl,n,hn⟩;have HG2:Hd (w.grownBy w2 none):=by show w.grownBy w2 none;rw [hn];exact gb_drew HG.o n
  clear hn;go_wp2;go_ret;exact ⟨ret_bool HZ.o.symm,HG2.o⟩
theorem isP_pre (s:ByteArray) (w:World) (h0:s.size ≠ 0) (hs:s.size < 2 ^ 62):Calls Tryz.prog 135 #[.string s,.int .i64 0] w fun e w'=>e=.returned (.bool (okParts true s.data.toList))/\w.grownBy w' none :=
 isParts_at s 0 true w h0 hs (fun b w h=>skipP b s 0 w (Nat.zero_le _) h hs)
theorem isP_build (s:ByteArray) (w:World) (h0:s.size ≠ 0) (hs:s.size < 2 ^ 62):Calls Tryz.prog 135 #[.string s,.int .i64 1] w fun e w'=>e=.returned (.bool (okParts false s.data.toList))/\w.grownBy w' none :=
 isParts_at s 1 false w h0 hs (fun b w h=>skipB b s 0 w (Nat.zero_le _) h hs)
theorem okp_empty (b:Bool) (s:ByteArray) (h:s.size=0):okParts b s.data.toList=true:=by
 have:s.data.toList=[]:=List.length_eq_zero_iff.1 (by simpa using h);rw [this];rfl
theorem ix0 (a1 a2 a3:Int) (w:World):(Instr.index 202 (.agg #[.int .i64 a1,.int .i64 a2,.int .i64 a3]) (.int .i64 0)).run Tryz.prog w=.ok (.int .i64 a1) w:=by kernel_rfl
theorem ix1 (a1 a2 a3:Int) (w:World):(Instr.index 202 (.agg #[.int .i64 a1,.int .i64 a2,.int .i64 a3]) (.int .i64 1)).run Tryz.prog w=.ok (.int .i64 a2) w:=by kernel_rfl
theorem ix2 (a1 a2 a3:Int) (w:World):(Instr.index 202 (.agg #[.int .i64 a1,.int .i64 a2,.int .i64 a3]) (.int .i64 2)).run Tryz.prog w=.ok (.int .i64 a3) w:=by kernel_rfl
theorem psound_any (a1 a2 a3:Int) (a4 a5:ByteArray) (w:World) (h4:a4.size < 2 ^ 62) (h5:a5.size < 2 ^ 62) :
  Calls Tryz.prog 118 #[.agg #[.int .i64 a1,.int .i64 a2,.int .i64 a3,.string a4,.string a5]] w fun e w'=>e=.returned (.bool (soundV ⟨a1,a2,a3,a4.data.toList,a5.data.toList⟩))/\w.grownBy w' none:=by
 obtain ⟨R,hR⟩:∃R,R=soundV ⟨a1,a2,a3,a4.data.toList,a5.data.toList⟩:=⟨_,rfl⟩;obtain ⟨x4,hx4⟩:∃x,x=okParts true a4.data.toList:=⟨_,rfl⟩;obtain ⟨x5,hx5⟩:∃x,x=okParts false a5.data.toList:=⟨_,rfl⟩;have HR:Hd (R=(bound a1 && (bound a2 && (bound a3 && (x4 && x5))))):=by show R=_;rw [hR,hx4,hx5];rfl
 have C4:Hd (a4.size ≠ 0->∀w,Calls Tryz.prog 135 #[.string a4,.int .i64 0] w fun e w'=>e=.returned (.bool x4)/\w.grownBy w' none):=fun h w=>by rw [hx4];exact isP_pre a4 w h h4
 have C5:Hd (a5.size ≠ 0->∀w,Calls Tryz.prog 135 #[.string a5,.int .i64 1] w fun e w'=>e=.returned (.bool x5)/\w.grownBy w' none):=fun h w=>by rw [hx5];exact isP_build a5 w h h5
 have E4:Hd (a4.size=0->x4=true):=fun h=>by rw [hx4];exact okp_empty true a4 h
 have E5:Hd (a5.size=0->x5=true):=fun h=>by rw [hx5];exact okp_empty false a5 h
 have GA:Hd (∀o,w.grownBy (w.alloc o) none):=fun o=>gb_alloc (gb_refl w none) o
 rw [<-hR];clear hR hx4 hx5 h4 h5;go_enter Tryz.func118,Tryz.ntmps118;go_wp2;obtain ⟨W,hW⟩:=nm (w.alloc (.cells #[.int .i64 a1,.int .i64 a2,.int .i64 a3,.string a4,.string a5] 69));have HG:Hd (w.grownBy W none):=by show w.grownBy W none;rw [<-hW];exact GA.o _
 obtain ⟨A,hA⟩:=nm (w.heap.size);have STa:Hd (St A a1 a2 a3 a4 a5 W):=by
  show St A a1 a2 a3 a4 a5 W;rw [<-hW,<-hA];exact st_row (t:=69) (heap_alloc_new w _)
 rw [hW,hA];clear hW hA GA
 go_loop [12] (fun i=>∃k:Nat,k<=3/\i=.int .i64 k/\(1<=k->bound a1=true)/\(2<=k->bound a2=true)/\(3<=k->bound a3=true)) (fun i=>3 - (intOf i).toNat)
 case atStart=>exact ⟨0,by omega,rfl,by omega,by omega,by omega⟩
 case round =>
  obtain ⟨k,hk,rfl,k1,k2,k3⟩:=hrel;have K1:Hd (1<=k->bound a1=true):=k1;have K2:Hd (2<=k->bound a2=true):=k2;have K3:Hd (3<=k->bound a3=true):=k3;clear k1 k2 k3
  rcases (show k=0\/k=1\/k=2\/k=3 by omega) with rfl | rfl | rfl | rfl
  ·clear hk;have ix:=ix0 a1 a2 a3 W
   by_cases b0:0<=a1
   ·have n0:decide (a1 < 0)=false:=decide_eq_false (by omega)
    by_cases b1:a1<=1000000000
    ·have n1:decide (1000000000 < a1)=false:=decide_eq_false (by omega);have BB:Hd (0<=a1/\a1<=1000000000):=⟨b0,b1⟩;clear b0 b1;go_wp2
     go_round
     case rel=>exact ⟨1,by omega,rfl,fun _=>bound_iff.2 BB.o,by omega,by omega⟩
     case measure=>simp [intOf]
    ·have n1:decide (1000000000 < a1)=true:=decide_eq_true (by omega);have HZ:Hd (R=false):=by show R=false;rw [HR.o,show bound a1=false by cases hb:bound a1 with | true=>exact absurd (bound_iff.1 hb) (by omega) | false=>rfl];simp
     clear b0 b1;go_wp2;go_ret;exact ⟨ret_bool HZ.o.symm,HG.o⟩
   ·have HZ:Hd (R=false):=by show R=false;rw [HR.o,show bound a1=false by cases hb:bound a1 with | true=>exact absurd (bound_iff.1 hb) (by omega) | false=>rfl];simp
    go_wp2;go_ret;exact ⟨ret_bool HZ.o.symm,HG.o⟩
  ·clear hk;have ix:=ix1 a1 a2 a3 W
   by_cases b0:0<=a2
   ·have n0:decide (a2 < 0)=false:=decide_eq_false (by omega)
    by_cases b1:a2<=1000000000
    ·have n1:decide (1000000000 < a2)=false:=decide_eq_false (by omega);have BB:Hd (0<=a2/\a2<=1000000000):=⟨b0,b1⟩;clear b0 b1;go_wp2
     go_round
     case rel=>exact ⟨2,by omega,rfl,fun _=>K1.o (by omega),fun _=>bound_iff.2 BB.o,by omega⟩
     case measure=>simp [intOf]
    ·have n1:decide (1000000000 < a2)=true:=decide_eq_true (by omega);have HZ:Hd (R=false):=by show R=false;rw [HR.o,show bound a2=false by cases hb:bound a2 with | true=>exact absurd (bound_iff.1 hb) (by omega) | false=>rfl];simp
     clear b0 b1;go_wp2;go_ret;exact ⟨ret_bool HZ.o.symm,HG.o⟩
   ·have HZ:Hd (R=false):=by show R=false;rw [HR.o,show bound a2=false by cases hb:bound a2 with | true=>exact absurd (bound_iff.1 hb) (by omega) | false=>rfl];simp
    go_wp2;go_ret;exact ⟨ret_bool HZ.o.symm,HG.o⟩
  ·clear hk;have ix:=ix2 a1 a2 a3 W
   by_cases b0:0<=a3
   ·have n0:decide (a3 < 0)=false:=decide_eq_false (by omega)
    by_cases b1:a3<=1000000000
    ·have n1:decide (1000000000 < a3)=false:=decide_eq_false (by omega);have BB:Hd (0<=a3/\a3<=1000000000):=⟨b0,b1⟩;clear b0 b1;go_wp2
     go_round
     case rel=>exact ⟨3,by omega,rfl,fun _=>K1.o (by omega),fun _=>K2.o (by omega),fun _=>bound_iff.2 BB.o⟩
     case measure=>simp [intOf]
    ·have n1:decide (1000000000 < a3)=true:=decide_eq_true (by omega);have HZ:Hd (R=false):=by show R=false;rw [HR.o,show bound a3=false by cases hb:bound a3 with | true=>exact absurd (bound_iff.1 hb) (by omega) | false=>rfl];simp
     clear b0 b1;go_wp2;go_ret;exact ⟨ret_bool HZ.o.symm,HG.o⟩
   ·have HZ:Hd (R=false):=by show R=false;rw [HR.o,show bound a3=false by cases hb:bound a3 with | true=>exact absurd (bound_iff.1 hb) (by omega) | false=>rfl];simp
    go_wp2;go_ret;exact ⟨ret_bool HZ.o.symm,HG.o⟩
  ·have HB:Hd (R=(x4 && x5)):=by show R=_;rw [HR.o,K1.o (by omega),K2.o (by omega),K3.o (by omega)];rfl
   obtain ⟨s1,s2,s3,s4,s5⟩:=STa.o;clear hk
   by_cases z4:a4.size=0
   ·have e4:=emp_t2 z4;have hx4:Hd (x4=true):=E4.o z4;clear z4
    by_cases z5:a5.size=0
    ·have e5:=emp_t2 z5;have HZ:Hd (R=true):=by show R=true;rw [HB.o,hx4.o,E5.o z5];rfl
     clear z5;go_wp2;go_ret;exact ⟨ret_bool HZ.o.symm,HG.o⟩
    ·have e5:=emp_f2 z5;have C:=C5.o z5;have HC:Hd (∀w,Calls Tryz.prog 135 #[.string a5,.int .i64 1] w fun e w'=>e=.returned (.bool x5)/\w.grownBy w' none):=C;have HZ:Hd (R=x5):=by show R=x5;rw [HB.o,hx4.o];rfl
     clear z5 C;go_wp2_with (first | (go_at_call 135;refine (HC.o _).mono ?_;rintro e w5 ⟨rfl,hg5⟩));go_ret;exact ⟨ret_bool HZ.o.symm,gb_trans HG.o hg5⟩
   ·have e4:=emp_f2 z4;have HC4:Hd (∀w,Calls Tryz.prog 135 #[.string a4,.int .i64 0] w fun e w'=>e=.returned (.bool x4)/\w.grownBy w' none):=C4.o z4;clear z4;go_wp2_with (go_at_call 135;refine (HC4.o _).mono ?_);rintro e w4 rfl hg4;have c5:w4.cell? ⟨A,4,none⟩=some (.string a5):=hg4.cell s5 (by simp);have HG4:Hd (w.grownBy w4 none):=gb_trans HG.o hg4;clear hg4
    cases x4 with
    | false =>
     have HZ:Hd (R=false):=by show R=false;rw [HB.o];rfl
     go_wp2;go_ret;exact ⟨ret_bool HZ.o.symm,HG4.o⟩
    | true =>
     have HZ5:Hd (R=x5):=by show R=x5;rw [HB.o];rfl
     by_cases z5:a5.size=0
     ·have e5:=emp_t2 z5;have HZ:Hd (R=true):=by show R=true;rw [HZ5.o,E5.o z5]
      clear z5;go_wp2;go_ret;exact ⟨ret_bool HZ.o.symm,HG4.o⟩
     ·have e5:=emp_f2 z5;have HC:Hd (∀w,Calls Tryz.prog 135 #[.string a5,.int .i64 1] w fun e w'=>e=.returned (.bool x5)/\w.grownBy w' none):=C5.o z5;clear z5;go_wp2_with (first | (go_at_call 135;refine (HC.o _).mono ?_;rintro e w5 ⟨rfl,hg5⟩));go_ret;exact ⟨ret_bool HZ5.o.symm,gb_trans HG4.o hg5⟩
open Go.RowKit
theorem elt_row {w:World} {A t:Nat} {s:Sp} (h:w.heap[A]?=some (.cells #[.int .i64 s.f1,.int .i64 s.f2,.int .i64 s.f3,.string s.f4,.string s.f5,.int .i64 s.t1,.int .i64 s.t2,.int .i64 s.t3,.string s.t4,.string s.t5,.bool s.o] t (0,0))):EltAt w ⟨A,0,none⟩ s :=
 ⟨by rw [cOH h];rfl,by rw [cOH h];rfl,by rw [cOH h];rfl,by rw [cOH h];rfl,by rw [cOH h];rfl,by rw [cOH h];rfl,by rw [cOH h];rfl,by rw [cOH h];rfl,by rw [cOH h];rfl,by rw [cOH h];rfl,by rw [cOH h];rfl⟩
set_option maxRecDepth 100000 in
theorem psound_at (a:Addr) (cap:Nat) (L:List Sp) (w:World) (hL:L.length < 2 ^ 62) (hcap:L.length<=cap) (h:SpAt w a L) (hsz:∀s ∈ L,smallS s) :
  Calls Tryz.prog 97 #[.slice (some a) L.length cap] w fun e w'=>e=.returned (.bool (L.all soundS))/\w.grownBy w' none:=by
 have HA:Hd (SpAt w a L):=h;have HS:Hd (∀s ∈ L,smallS s):=hsz;clear h hsz;obtain ⟨R,hR⟩:=nm (L.all soundS);have HR:Hd (L.all soundS=R):=hR;rw [hR];clear hR;go_enter Tryz.func97,Tryz.ntmps97;go_wp2;go_loopw [7] (fun vi wr=>∃i:Nat,vi=.int .i64 i/\i<=L.length/\(∀j (hj:j < L.length),j < i->soundS L[j]=true)/\w.grownBy wr none) (fun vi _=>L.length - (intOf vi).toNat)
 case atStart=>exact ⟨0,rfl,Nat.zero_le _,fun j hj h=>absurd h (by omega),gb_refl _ _⟩
 case round =>
  obtain ⟨i,rfl,hi,hp,hg⟩:=hrel;have HP:Hd (∀j (hj:j < L.length),j < i->soundS L[j]=true):=hp;have HG:Hd (w.grownBy wr none):=hg;clear hp hg
  by_cases hlt:i < L.length
  ·obtain ⟨s,hs⟩:=nm (L[i]);have HE:Hd (EltAt wr (a.add (i * 11)) s):=by show EltAt wr _ s;rw [<-hs];exact (HA.o i hlt).grow HG.o
   have hm:smallS s:=by rw [<-hs];exact HS.o _ (List.getElem_mem hlt)
   have HSS:Hd (L[i]=s):=hs;have CF:Hd (∀w,Calls Tryz.prog 118 #[.agg #[.int .i64 s.f1,.int .i64 s.f2,.int .i64 s.f3,.string s.f4,.string s.f5]] w fun e w'=>e=.returned (.bool (soundV (vFrom s)))/\w.grownBy w' none):=fun w=>psound_any s.f1 s.f2 s.f3 s.f4 s.f5 w (by have:=hm.1;omega) (by have:=hm.2.1;omega)
   have CT:Hd (∀w,Calls Tryz.prog 118 #[.agg #[.int .i64 s.t1,.int .i64 s.t2,.int .i64 s.t3,.string s.t4,.string s.t5]] w fun e w'=>e=.returned (.bool (soundV (vTo s)))/\w.grownBy w' none):=fun w=>psound_any s.t1 s.t2 s.t3 s.t4 s.t5 w (by have:=hm.2.2.1;omega) (by have:=hm.2.2.2;omega)
   obtain ⟨x,hx⟩:=nm (soundV (vFrom s));obtain ⟨y,hy⟩:=nm (soundV (vTo s));rw [hx] at CF;rw [hy] at CT;have HXY:Hd (soundS s=(x && (s.o || y))):=by show soundS s=_;unfold soundS;rw [hx,hy]
   clear hx hy hm hs;obtain ⟨e0,e1,e2,e3,e4,e5,e6,e7,e8,e9,e10⟩:=HE.o;go_wp2_with (first | (go_at_call 118;refine (CF.o _).mono ?_));rintro e w1 ⟨rfl,hg⟩;obtain ⟨N,hN⟩:=nm (wr.heap.size);have HE1:Hd (EltAt w1 ⟨N,0,none⟩ s):=by
    refine EltAt.grow ?_ hg;rw [<-hN];exact elt_row (t:=110) (heap_alloc_new wr _)
   replace HG:Hd (w.grownBy w1 none):=gb_trans (gb_alloc HG.o _) hg;rw [hN];clear hN hg e0 e1 e2 e3 e4 e5 e6 e7 e8 e9 e10;obtain ⟨e0,e1,e2,e3,e4,e5,e6,e7,e8,e9,e10⟩:=HE1.o;simp only [Nat.zero_add] at e1 e2 e3 e4 e5 e6 e7 e8 e9 e10;obtain ⟨ob,hob⟩:∃b,s.o=b:=⟨_,rfl⟩;rw [hob] at e10 HXY;clear hob
   cases x with
   | false =>
    rw [Bool.false_and] at HXY;have HRF:Hd (R=false):=by
     show R=false;rw [<-HR.o,List.all_eq_false];exact ⟨L[i],List.getElem_mem hlt,by rw [HSS.o,HXY.o];decide⟩
    clear HXY;go_wp2;go_ret;exact ⟨ret_bool HRF.o.symm,HG.o⟩
   | true =>
    rw [Bool.true_and] at HXY
    cases ob with
    | true =>
     rw [Bool.true_or] at HXY;have HT:Hd (soundS s=true):=by show soundS s=true;rw [HXY.o]
     clear HXY;go_wp2;go_roundw
     case rel =>
      refine ⟨i+1,by go_num,by omega,fun j hj hji=>?_,HG.o⟩
      by_cases hji':j < i
      ·exact HP.o j hj hji'
      ·have e:j=i:=by omega
       subst e;rw [HSS.o];exact HT.o
     case measure=>simp [intOf];omega
    | false =>
     rw [Bool.false_or] at HXY;go_wp2_with (first | (go_at_call 118;refine (CT.o _).mono ?_));rintro e w2 ⟨rfl,hg⟩;replace HG:Hd (w.grownBy w2 none):=gb_trans HG.o hg;clear hg e0 e1 e2 e3 e4 e5 e6 e7 e8 e9 e10
     cases y with
     | true =>
      have HT:Hd (soundS s=true):=by show soundS s=true;rw [HXY.o]
      clear HXY;go_wp2;go_roundw
      case rel =>
       refine ⟨i+1,by go_num,by omega,fun j hj hji=>?_,HG.o⟩
       by_cases hji':j < i
       ·exact HP.o j hj hji'
       ·have e:j=i:=by omega
        subst e;rw [HSS.o];exact HT.o
      case measure=>simp [intOf];omega
     | false =>
      have HRF:Hd (R=false):=by
       show R=false;rw [<-HR.o,List.all_eq_false];exact ⟨L[i],List.getElem_mem hlt,by rw [HSS.o,HXY.o];decide⟩
      clear HXY;go_wp2;go_ret;exact ⟨ret_bool HRF.o.symm,HG.o⟩
  ·have HRT:Hd (R=true):=by
    show R=true;rw [<-HR.o,List.all_eq_true];intro t ht;obtain ⟨j,hj,rfl⟩:=List.getElem_of_mem ht;exact HP.o j hj (by omega)
   clear hi;go_wp2;go_ret;exact ⟨ret_bool HRT.o.symm,HG.o⟩
theorem psound_nil (w:World):Calls Tryz.prog 97 #[.slice none 0 0] w fun e w'=>e=.returned (.bool true)/\w.grownBy w' none:=by
 go_enter Tryz.func97,Tryz.ntmps97;go_wp2;go_loopw [7] (fun vi wr=>vi=.int .i64 0/\w.grownBy wr none) (fun vi _=>0)
 case atStart=>exact ⟨rfl,gb_refl _ _⟩
 case round =>
  obtain ⟨rfl,hg⟩:=hrel;have HG:Hd (w.grownBy wr none):=hg;clear hg;go_wp2;go_ret;exact ⟨rfl,HG.o⟩
set_option maxRecDepth 100000 in
theorem pholds_at (a:Addr) (cap:Nat) (L:List Sp) (v1 v2 v3:Int) (v4 v5:ByteArray) (w:World) (hL:L.length < 2 ^ 62) (hcap:L.length<=cap) (h:SpAt w a L) (hsz:∀s ∈ L,smallS s) (hv:v4.size<=1048576) :
  Calls Tryz.prog 38 #[.slice (some a) L.length cap,.agg #[.int .i64 v1,.int .i64 v2,.int .i64 v3,.string v4,.string v5]] w fun e w'=>e=.returned (.bool (holdsL L ⟨v1,v2,v3,v4.data.toList⟩))/\w.grownBy w' none:=by
 have HA:Hd (SpAt w a L):=h;have HS:Hd (∀s ∈ L,smallS s):=hsz;have HV4:Hd (v4.size<=1048576):=hv;clear h hsz hv;obtain ⟨v,hv⟩:∃v:V,v=⟨v1,v2,v3,v4.data.toList⟩:=⟨_,rfl⟩;have HV:Hd (v=⟨v1,v2,v3,v4.data.toList⟩):=hv;rw [<-hv];obtain ⟨R,hR⟩:=nm (holdsL L v);have HR:Hd (holdsL L v=R):=hR;rw [hR];clear hR hv;go_enter Tryz.func38,Tryz.ntmps38;go_wp2;obtain ⟨A,hA⟩:=nm (w.heap.size);obtain ⟨W,hW⟩:=nm (w.alloc (.cells #[.int .i64 v1,.int .i64 v2,.int .i64 v3,.string v4,.string v5] 69));have HG0:Hd (w.grownBy W none):=by show w.grownBy W none;rw [<-hW];exact gb_alloc (gb_refl w none) _
 have STv:Hd (St A v1 v2 v3 v4 v5 W):=by show St _ _ _ _ _ _ W;rw [<-hW,<-hA];exact st_row (t:=69) (heap_alloc_new w _)
 try rw [hW]
 try rw [hA]
 clear hW hA;go_loopw [9] (fun vi wr=>∃i:Nat,vi=.int .i64 i/\i<=L.length/\(∀j (hj:j < L.length),j < i->hasS L[j] v=false)/\W.grownBy wr none) (fun vi _=>L.length - (intOf vi).toNat)
 case atStart=>exact ⟨0,rfl,Nat.zero_le _,fun j hj h=>absurd h (by omega),gb_refl _ _⟩
 case round =>
  obtain ⟨i,rfl,hi,hp,hg⟩:=hrel;have HP:Hd (∀j (hj:j < L.length),j < i->hasS L[j] v=false):=hp;have HG:Hd (W.grownBy wr none):=hg;have STr:Hd (St A v1 v2 v3 v4 v5 wr):=STv.o.grow hg;clear hp hg
  by_cases hlt:i < L.length
  ·obtain ⟨s,hs⟩:=nm (L[i]);have HE:Hd (EltAt wr (a.add (i * 11)) s):=by show EltAt wr _ s;rw [<-hs];exact ((HA.o i hlt).grow HG0.o).grow HG.o
   have hm:smallS s:=by rw [<-hs];exact HS.o _ (List.getElem_mem hlt)
   have HSS:Hd (L[i]=s):=hs;obtain ⟨x,hx⟩:=nm (verC v (cFrom s));obtain ⟨y,hy⟩:=nm (verC v (cTo s));have CF:Hd (∀w,Calls Tryz.prog 54 #[.agg #[.int .i64 v1,.int .i64 v2,.int .i64 v3,.string v4,.string v5],.agg #[.int .i64 s.f1,.int .i64 s.f2,.int .i64 s.f3,.string s.f4,.string s.f5]] w fun e w'=>e=.returned (.int .i64 x)/\w.grownBy w' none):=fun w=>by
    rw [<-hx,HV.o];exact compare_any v1 v2 v3 s.f1 s.f2 s.f3 v4 v5 s.f4 s.f5 w (by have:=HV4.o;omega) (by have:=hm.1;omega)
   have CT:Hd (∀w,Calls Tryz.prog 54 #[.agg #[.int .i64 v1,.int .i64 v2,.int .i64 v3,.string v4,.string v5],.agg #[.int .i64 s.t1,.int .i64 s.t2,.int .i64 s.t3,.string s.t4,.string s.t5]] w fun e w'=>e=.returned (.int .i64 y)/\w.grownBy w' none):=fun w=>by
    rw [<-hy,HV.o];exact compare_any v1 v2 v3 s.t1 s.t2 s.t3 v4 v5 s.t4 s.t5 w (by have:=HV4.o;omega) (by have:=hm.2.2.1;omega)
   have HXY:Hd (hasS s v=(decide (0<=x) && (s.o || decide (y < 0)))):=by
    show hasS s v=_;unfold hasS;have:=good_ver.anti v (cFrom s);rw [hx] at this;rw [this,hy];congr 1;rw [Bool.eq_iff_iff];simp
   clear hm hs hx hy;obtain ⟨e0,e1,e2,e3,e4,e5,e6,e7,e8,e9,e10⟩:=HE.o;obtain ⟨N,hN⟩:=nm (wr.heap.size);obtain ⟨W2,hW2⟩:=nm (wr.alloc (.cells #[.int .i64 s.f1,.int .i64 s.f2,.int .i64 s.f3,.string s.f4,.string s.f5,.int .i64 s.t1,.int .i64 s.t2,.int .i64 s.t3,.string s.t4,.string s.t5,.bool s.o] 110));have hg2:wr.grownBy W2 none:=by rw [<-hW2];exact gb_alloc (gb_refl wr none) _
   have HE2:Hd (EltAt W2 ⟨N,0,none⟩ s):=by
    show EltAt W2 _ s;rw [<-hN,<-hW2];exact elt_row (t:=110) (heap_alloc_new wr _)
   replace STr:Hd (St A v1 v2 v3 v4 v5 W2):=STr.o.grow hg2;replace HG:Hd (W.grownBy W2 none):=gb_trans HG.o hg2;clear hg2;obtain ⟨s1,s2,s3,s4,s5⟩:=STr.o;obtain ⟨d0,d1,d2,d3,d4,d5,d6,d7,d8,d9,d10⟩:=HE2.o;simp only [Nat.zero_add] at d1 d2 d3 d4 d5 d6 d7 d8 d9 d10;go_wp2_with (first | (go_at_call 54;refine (CF.o _).mono ?_));rintro e w1 ⟨rfl,hg⟩;have HE1:Hd (EltAt w1 ⟨N,0,none⟩ s):=HE2.o.grow hg;replace STr:Hd (St A v1 v2 v3 v4 v5 w1):=STr.o.grow hg;replace HG:Hd (W.grownBy w1 none):=gb_trans HG.o hg
   try rw [hN]
   clear hN hW2 hg e0 e1 e2 e3 e4 e5 e6 e7 e8 e9 e10 s1 s2 s3 s4 s5 d0 d1 d2 d3 d4 d5 d6 d7 d8 d9 d10;obtain ⟨e0,e1,e2,e3,e4,e5,e6,e7,e8,e9,e10⟩:=HE1.o;simp only [Nat.zero_add] at e1 e2 e3 e4 e5 e6 e7 e8 e9 e10;obtain ⟨s1,s2,s3,s4,s5⟩:=STr.o;obtain ⟨ob,hob⟩:∃b,s.o=b:=⟨_,rfl⟩;rw [hob] at e10 HXY;clear hob
   by_cases hx0:0<=x
   ·rw [decide_eq_true hx0,Bool.true_and] at HXY
    cases ob with
    | true =>
     rw [Bool.true_or] at HXY;have HRT:Hd (R=true):=by
      show R=true;rw [<-HR.o];unfold holdsL;rw [List.any_eq_true];exact ⟨L[i],List.getElem_mem hlt,by rw [HSS.o];exact HXY.o⟩
     go_wp2;go_ret;exact ⟨ret_bool HRT.o.symm,gb_trans HG0.o HG.o⟩
    | false =>
     rw [Bool.false_or] at HXY;go_wp2_with (first | (go_at_call 54;refine (CT.o _).mono ?_));rintro e w2 ⟨rfl,hg⟩;replace HG:Hd (W.grownBy w2 none):=gb_trans HG.o hg;clear hg e0 e1 e2 e3 e4 e5 e6 e7 e8 e9 e10 s1 s2 s3 s4 s5
     by_cases hy0:y < 0
     ·rw [decide_eq_true hy0] at HXY;have HRT:Hd (R=true):=by
       show R=true;rw [<-HR.o];unfold holdsL;rw [List.any_eq_true];exact ⟨L[i],List.getElem_mem hlt,by rw [HSS.o];exact HXY.o⟩
      go_wp2;go_ret;exact ⟨ret_bool HRT.o.symm,gb_trans HG0.o HG.o⟩
     ·rw [decide_eq_false hy0] at HXY;go_wp2;go_roundw
      case rel =>
       refine ⟨i+1,by go_num,by omega,fun j hj hji=>?_,HG.o⟩
       by_cases hji':j < i
       ·exact HP.o j hj hji'
       ·have e:j=i:=by omega
        subst e;rw [HSS.o];exact HXY.o
      case measure=>simp [intOf];omega
   ·rw [decide_eq_false hx0,Bool.false_and] at HXY;go_wp2;go_roundw
    case rel =>
     refine ⟨i+1,by go_num,by omega,fun j hj hji=>?_,HG.o⟩
     by_cases hji':j < i
     ·exact HP.o j hj hji'
     ·have e:j=i:=by omega
      subst e;rw [HSS.o];exact HXY.o
    case measure=>simp [intOf];omega
  ·have HRF:Hd (R=false):=by
    show R=false;rw [<-HR.o];unfold holdsL;rw [List.any_eq_false];intro t ht;obtain ⟨j,hj,rfl⟩:=List.getElem_of_mem ht;rw [HP.o j hj (by omega)];decide
   clear hi;go_wp2;go_ret;exact ⟨ret_bool HRF.o.symm,gb_trans HG0.o HG.o⟩
theorem pholds_nil (v1 v2 v3:Int) (v4 v5:ByteArray) (w:World):Calls Tryz.prog 38 #[.slice none 0 0,.agg #[.int .i64 v1,.int .i64 v2,.int .i64 v3,.string v4,.string v5]] w fun e w'=>e=.returned (.bool false)/\w.grownBy w' none:=by
 go_enter Tryz.func38,Tryz.ntmps38;go_wp2;go_loopw [9] (fun vi wr=>vi=.int .i64 0/\w.grownBy wr none) (fun vi _=>0)
 case atStart=>exact ⟨rfl,gb_alloc (gb_refl _ _) _⟩
 case round =>
  obtain ⟨rfl,hg⟩:=hrel;have HG:Hd (w.grownBy wr none):=hg;clear hg;go_wp2;go_ret;exact ⟨rfl,HG.o⟩
end Go.Proofs.YticgahdffjnabaaGreatDoor
