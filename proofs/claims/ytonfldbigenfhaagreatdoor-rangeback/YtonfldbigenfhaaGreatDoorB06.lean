import Derived.Test.YtonfldbigenfhaaGreatDoorB05
import Derived.Test.YtonfldbigenfhaaGreatDoorB02
namespace Go.Proofs.YtonfldbigenfhaaGreatDoor
open Go.RowKit
set_option linter.unusedVariables false
theorem emp_t2 {a:ByteArray} (h:a.size=0):a.toList.isEmpty=true:=by
 rw [Lib.toList_data,List.isEmpty_iff];exact List.length_eq_zero_iff.1 (by simpa using h)
theorem emp_f2 {a:ByteArray} (h:a.size ≠ 0):a.toList.isEmpty=false:=by
 rw [Lib.toList_data]
 cases hl:a.data.toList with
 | nil=>exact absurd (show a.size=0 from by show a.data.size=0;rw [<-Array.length_toList,hl];rfl) h
 | cons c l=>rfl
theorem RS.grow {b:Nat} {s:ByteArray} {i:Nat} {w w':World} (h:RS b s i w) (hg:w.grownBy w' none):RS b s i w':=by
 obtain ⟨t,h⟩:=h
 exact ⟨t,by rw [hg.block b ((Array.getElem?_eq_some_iff.1 h).1) (by simp)];exact h⟩
set_option maxHeartbeats 400000 in
theorem needless_any (s:ByteArray) (w:World):Calls Tryz.prog 113 #[.string s] w fun e w'=>e=.returned (.bool (decide (1 < s.data.toList.length) && decide (s.data.toList[0]?=some 48)))/\w'=w:=by
 by_cases h1:1 < s.size
 ·have h0:0 < s.size:=by omega
  have hl:decide (1 < s.data.toList.length)=true:=by simp;exact h1
  rw [hl,Bool.true_and,get_data s 0 h0]
  cases hz:((s[0].toNat:Int) == 48) with
  | true =>
   have hc:s[0]=48:=UInt8.toNat_inj.1 (by have:=eq_of_beq hz;have e48:(48:UInt8).toNat=48:=rfl;omega)
   have HZ:Hid (decide (some s[0]=some (48:UInt8))=true):=by show decide _=true;rw [hc];rfl
   rw [HZ.out]
   clear hc hl
   go_enter Tryz.func113,Tryz.ntmps113
   go_wp2
   go_ret
   exact ⟨rfl,rfl⟩
  | false =>
   have HZ:Hid (decide (some s[0]=some (48:UInt8))=false):=by
    show decide _=false
    apply decide_eq_false
    intro e
    rw [Option.some.inj e] at hz
    exact absurd hz (by decide)
   rw [HZ.out]
   clear hl
   go_enter Tryz.func113,Tryz.ntmps113
   go_wp2
   go_ret
   exact ⟨rfl,rfl⟩
 ·have hl:decide (1 < s.data.toList.length)=false:=by simp;exact Nat.le_of_not_lt h1
  rw [hl,Bool.false_and]
  clear hl
  go_enter Tryz.func113,Tryz.ntmps113
  go_wp2
  go_ret
  exact ⟨rfl,rfl⟩
set_option maxHeartbeats 1600000 in
theorem skipP (b:Nat) (s:ByteArray) (i:Nat) (w:World) (hi:i<=s.size) (h:RS b s i w) (hs:s.size < 2 ^ 62) :
  Calls Tryz.prog 96 #[.pointer (some ⟨b,0,none⟩),.int .i64 0] w fun e w'=>e=.returned (.int .i64 (rdParts true s.data.toList i).1)/\RS b s (rdParts true s.data.toList i).2 w'/\w.grownBy w' (some b):=by
 have HI:Hid (RS b s i w/\i<=s.size):=⟨h,hi⟩
 obtain ⟨E,Q,hEQ⟩:∃E Q,rdParts true s.data.toList i=(E,Q):=⟨_,_,rfl⟩
 rw [hEQ]
 have HEQ:Hid (rdParts true s.data.toList i=(E,Q)):=hEQ
 have hsl:s.data.toList.length=s.size:=by simp
 have HSL:Hid (s.data.toList.length=s.size):=hsl
 clear h hi hEQ hsl
 go_enter Tryz.func96,Tryz.ntmps96
 go_wp2
 go_loopw [] (fun wr=>∃j:Nat,j<=s.size/\RS b s j wr/\w.grownBy wr (some b)/\rdParts true s.data.toList j=(E,Q)) (fun wr=>s.size - placeOf b wr)
 case atStart=>exact ⟨i,HI.out.2,HI.out.1,gb_refl _ _,HEQ.out⟩
 case round =>
  obtain ⟨j,hj,hrs,hgb,hrd⟩:=hrel
  have CR:Hid (Calls Tryz.prog 90 #[.pointer (some ⟨b,0,none⟩),.func (.func 111) #[] #[]] wr fun e w'=>e=.returned (.string ⟨(subT s.data.toList j (runN isP s.data.toList j)).toArray⟩)/\RS b s (j+runN isP s.data.toList j) w'/\wr.grownBy w' (some b)):=run_parts b s j wr hj hrs hs
  have HPL:Hid (placeOf b wr=j):=hrs.place
  have d1:=hrs.c1
  have hle:j+runN isP s.data.toList j<=s.size:=by have:=runN_le isP s.data.toList j (by rw [HSL.out];exact hj);rw [HSL.out] at this;exact this
  have hln:=sub_len s.data.toList j (runN isP s.data.toList j) (by rw [HSL.out];exact hle)
  rw [rdParts_eq] at hrd
  obtain ⟨k,hk⟩:∃k,runN isP s.data.toList j=k:=⟨_,rfl⟩
  rw [hk] at CR hrd hle hln
  obtain ⟨T,hT⟩:∃T,subT s.data.toList j k=T:=⟨_,rfl⟩
  rw [hT] at CR hrd hln
  obtain ⟨X,hX⟩:∃X:ByteArray,X=⟨T.toArray⟩:=⟨_,rfl⟩
  rw [<-hX] at CR
  have HXd:Hid (X.data.toList=T):=by show X.data.toList=T;rw [hX]
  have hXs:X.size=k:=by rw [hX];show T.toArray.size=k;simpa using hln
  have HGB:Hid (w.grownBy wr (some b)):=hgb
  have HRS:Hid (RS b s j wr):=hrs
  have HRD:Hid ((if k=0 then (2,j) else if badZ true T=true then (2,j) else if s.data.toList[j+k]?=some 46 then rdParts true s.data.toList (j+k+1) else (0,j+k))=(E,Q)):=hrd
  clear hk hT hX hgb hrs hrd hln
  by_cases hk0:k=0
  ·have e1:=emp_t2 (hXs.trans hk0)
   have HZ:Hid (E=2/\Q=j):=by
    have:=HRD.out
    rw [if_pos hk0] at this
    exact ⟨(congrArg Prod.fst this).symm,(congrArg Prod.snd this).symm⟩
   have HK:Hid (k=0):=hk0
   clear hk0 hXs hle
   go_wp2_with (go_at_call 90;refine CR.out.mono ?_)
   rintro e w1 ⟨rfl,hr1,hg1⟩
   have HF:Hid (RS b s Q w1/\w.grownBy w1 (some b)):=by
    refine ⟨?_,gb_trans HGB.out hg1⟩
    rw [HZ.out.2];rw [HK.out] at hr1;exact hr1
   clear hr1 hg1
   go_wp2
   go_ret
   exact ⟨ret_int HZ.out.1.symm,HF.out.1,HF.out.2⟩
  ·have e1:=emp_f2 (fun h=>hk0 (hXs.symm.trans h))
   have HNE:Hid (X.data.toList.isEmpty=false):=by show X.data.toList.isEmpty=false;rw [<-Lib.toList_data];exact e1
   have HK:Hid (¬ k=0):=hk0
   have hXb:X.size < 2 ^ 62:=by omega
   have HLE:Hid (j+k<=s.size):=hle
   clear hk0 hXs hle
   go_wp2_with (go_at_call 90;refine CR.out.mono ?_)
   rintro e w1 ⟨rfl,hr1,hg1⟩
   have HR1:Hid (RS b s (j+k) w1):=hr1
   have HG1:Hid (w.grownBy w1 (some b)):=gb_trans HGB.out hg1
   clear hr1 hg1
   have CD:Hid (∀w,Calls Tryz.prog 112 #[.string X] w fun e w'=>e=.returned (.bool (numT X.data.toList))/\w.grownBy w' none):=fun w=>isDigits_any X w hXb
   obtain ⟨dX,hdX⟩:∃d,numT X.data.toList=d:=⟨_,rfl⟩
   rw [hdX] at CD
   have HDX:Hid (T.all isD=dX):=by
    show T.all isD=dX
    rw [<-hdX];unfold numT;rw [HNE.out,HXd.out];rfl
   obtain ⟨z,hz⟩:∃z,(decide (1 < X.data.toList.length) && decide (X.data.toList[0]?=some 48))=z:=⟨_,rfl⟩
   have CZ:Hid (∀w,Calls Tryz.prog 113 #[.string X] w fun e w'=>e=.returned (.bool z)/\w'=w):=fun w=>by rw [<-hz];exact needless_any X w
   have HBZ:Hid (badZ true T=(dX && z)):=by
    show badZ true T=_
    rw [<-hz,<-HDX.out,HXd.out];rfl
   clear hdX hz
   go_wp2_with (go_at_call 112;refine (CD.out _).mono ?_)
   rintro e w2 ⟨rfl,hg2⟩
   replace HR1:Hid (RS b s (j+k) w2):=HR1.out.grow hg2
   replace HG1:Hid (w.grownBy w2 (some b)):=gb_trans HG1.out (gb_weak hg2 _)
   clear hg2
   cases dX with
   | false =>
    have HB:Hid (badZ true T=false):=by show badZ true T=false;rw [HBZ.out];rfl
    cases hc:decide (s.data.toList[j+k]?=some 46) with
    | true =>
     have hc':=of_decide_eq_true hc
     have HT:Hid (rdParts true s.data.toList (j+k+1)=(E,Q)):=by
      have:=HRD.out
      rw [if_neg HK.out,if_neg (by rw [HB.out];simp),if_pos hc'] at this
      exact this
     have CT:Hid (Calls Tryz.prog 60 #[.pointer (some ⟨b,0,none⟩),.string ⟨#[46]⟩] w2 fun e w'=>e=.returned (.bool true)/\RS b s (j+k+1) w'/\w2.grownBy w' (some b)):=take_yes b s (j+k) 46 w2 hc' HR1.out hs
     have HLT:Hid (j+k < s.size):=by have:=(List.getElem?_eq_some_iff.1 hc').1;rw [HSL.out] at this;exact this
     clear hc hc'
     go_wp2_with (first | (go_at_call 60;refine CT.out.mono ?_))
     rintro e w3 ⟨rfl,hr3,hg3⟩
     have HF:Hid (RS b s (j+k+1) w3/\w.grownBy w3 (some b)):=⟨hr3,gb_trans HG1.out hg3⟩
     clear hr3 hg3
     go_wp2
     go_roundw
     case rel=>exact ⟨j+k+1,HLT.out,HF.out.1,HF.out.2,HT.out⟩
     case measure =>
      rw [HPL.out,HF.out.1.place]
      have:=HLT.out
      omega
    | false =>
     have hc':=of_decide_eq_false hc
     have HT:Hid (E=0/\Q=j+k):=by
      have:=HRD.out
      rw [if_neg HK.out,if_neg (by rw [HB.out];simp),if_neg hc'] at this
      exact ⟨(congrArg Prod.fst this).symm,(congrArg Prod.snd this).symm⟩
     have CT:Hid (Calls Tryz.prog 60 #[.pointer (some ⟨b,0,none⟩),.string ⟨#[46]⟩] w2 fun e w'=>e=.returned (.bool false)/\RS b s (j+k) w'/\w2.grownBy w' (some b)):=take_no b s (j+k) 46 w2 HLE.out hc' HR1.out hs
     clear hc hc'
     go_wp2_with (first | (go_at_call 60;refine CT.out.mono ?_))
     rintro e w3 ⟨rfl,hr3,hg3⟩
     have HF:Hid (RS b s (j+k) w3/\w.grownBy w3 (some b)):=⟨hr3,gb_trans HG1.out hg3⟩
     clear hr3 hg3
     go_wp2
     go_ret
     exact ⟨ret_int HT.out.1.symm,by rw [HT.out.2];exact HF.out.1,HF.out.2⟩
   | true =>
    cases z with
    | true =>
     have HZ:Hid (E=2/\Q=j):=by
      have:=HRD.out
      rw [if_neg HK.out,if_pos (by rw [HBZ.out];rfl)] at this
      exact ⟨(congrArg Prod.fst this).symm,(congrArg Prod.snd this).symm⟩
     have f1:=HR1.out.c1
     have f2:=HR1.out.f1
     go_wp2_with (first | (go_at_call 113;refine (CZ.out _).mono ?_;rintro e w' ⟨rfl,rfl⟩))
     go_ret
     exact ⟨ret_int HZ.out.1.symm,by rw [HZ.out.2];exact HR1.out.set j,gb_set HG1.out _ _⟩
    | false =>
     have HB:Hid (badZ true T=false):=by show badZ true T=false;rw [HBZ.out];rfl
     cases hc:decide (s.data.toList[j+k]?=some 46) with
     | true =>
      have hc':=of_decide_eq_true hc
      have HT:Hid (rdParts true s.data.toList (j+k+1)=(E,Q)):=by
       have:=HRD.out
       rw [if_neg HK.out,if_neg (by rw [HB.out];simp),if_pos hc'] at this
       exact this
      have CT:Hid (Calls Tryz.prog 60 #[.pointer (some ⟨b,0,none⟩),.string ⟨#[46]⟩] w2 fun e w'=>e=.returned (.bool true)/\RS b s (j+k+1) w'/\w2.grownBy w' (some b)):=take_yes b s (j+k) 46 w2 hc' HR1.out hs
      have HLT:Hid (j+k < s.size):=by have:=(List.getElem?_eq_some_iff.1 hc').1;rw [HSL.out] at this;exact this
      clear hc hc'
      go_wp2_with (first | (go_at_call 113;refine (CZ.out _).mono ?_;rintro e w' ⟨rfl,rfl⟩) | (go_at_call 60;refine CT.out.mono ?_))
      rintro e w3 ⟨rfl,hr3,hg3⟩
      have HF:Hid (RS b s (j+k+1) w3/\w.grownBy w3 (some b)):=⟨hr3,gb_trans HG1.out hg3⟩
      clear hr3 hg3
      go_wp2
      go_roundw
      case rel=>exact ⟨j+k+1,HLT.out,HF.out.1,HF.out.2,HT.out⟩
      case measure =>
       rw [HPL.out,HF.out.1.place]
       have:=HLT.out
       omega
     | false =>
      have hc':=of_decide_eq_false hc
      have HT:Hid (E=0/\Q=j+k):=by
       have:=HRD.out
       rw [if_neg HK.out,if_neg (by rw [HB.out];simp),if_neg hc'] at this
       exact ⟨(congrArg Prod.fst this).symm,(congrArg Prod.snd this).symm⟩
      have CT:Hid (Calls Tryz.prog 60 #[.pointer (some ⟨b,0,none⟩),.string ⟨#[46]⟩] w2 fun e w'=>e=.returned (.bool false)/\RS b s (j+k) w'/\w2.grownBy w' (some b)):=take_no b s (j+k) 46 w2 HLE.out hc' HR1.out hs
      clear hc hc'
      go_wp2_with (first | (go_at_call 113;refine (CZ.out _).mono ?_;rintro e w' ⟨rfl,rfl⟩) | (go_at_call 60;refine CT.out.mono ?_))
      rintro e w3 ⟨rfl,hr3,hg3⟩
      have HF:Hid (RS b s (j+k) w3/\w.grownBy w3 (some b)):=⟨hr3,gb_trans HG1.out hg3⟩
      clear hr3 hg3
      go_wp2
      go_ret
      exact ⟨ret_int HT.out.1.symm,by rw [HT.out.2];exact HF.out.1,HF.out.2⟩
set_option maxHeartbeats 1600000 in
theorem skipB (b:Nat) (s:ByteArray) (i:Nat) (w:World) (hi:i<=s.size) (h:RS b s i w) (hs:s.size < 2 ^ 62) :
  Calls Tryz.prog 96 #[.pointer (some ⟨b,0,none⟩),.int .i64 1] w fun e w'=>e=.returned (.int .i64 (rdParts false s.data.toList i).1)/\RS b s (rdParts false s.data.toList i).2 w'/\w.grownBy w' (some b):=by
 have HI:Hid (RS b s i w/\i<=s.size):=⟨h,hi⟩
 obtain ⟨E,Q,hEQ⟩:∃E Q,rdParts false s.data.toList i=(E,Q):=⟨_,_,rfl⟩
 rw [hEQ]
 have HEQ:Hid (rdParts false s.data.toList i=(E,Q)):=hEQ
 have hsl:s.data.toList.length=s.size:=by simp
 have HSL:Hid (s.data.toList.length=s.size):=hsl
 clear h hi hEQ hsl
 go_enter Tryz.func96,Tryz.ntmps96
 go_wp2
 go_loopw [] (fun wr=>∃j:Nat,j<=s.size/\RS b s j wr/\w.grownBy wr (some b)/\rdParts false s.data.toList j=(E,Q)) (fun wr=>s.size - placeOf b wr)
 case atStart=>exact ⟨i,HI.out.2,HI.out.1,gb_refl _ _,HEQ.out⟩
 case round =>
  obtain ⟨j,hj,hrs,hgb,hrd⟩:=hrel
  have CR:Hid (Calls Tryz.prog 90 #[.pointer (some ⟨b,0,none⟩),.func (.func 111) #[] #[]] wr fun e w'=>e=.returned (.string ⟨(subT s.data.toList j (runN isP s.data.toList j)).toArray⟩)/\RS b s (j+runN isP s.data.toList j) w'/\wr.grownBy w' (some b)):=run_parts b s j wr hj hrs hs
  have HPL:Hid (placeOf b wr=j):=hrs.place
  have d1:=hrs.c1
  have hle:j+runN isP s.data.toList j<=s.size:=by have:=runN_le isP s.data.toList j (by rw [HSL.out];exact hj);rw [HSL.out] at this;exact this
  have hln:=sub_len s.data.toList j (runN isP s.data.toList j) (by rw [HSL.out];exact hle)
  rw [rdParts_eq] at hrd
  obtain ⟨k,hk⟩:∃k,runN isP s.data.toList j=k:=⟨_,rfl⟩
  rw [hk] at CR hrd hle hln
  obtain ⟨T,hT⟩:∃T,subT s.data.toList j k=T:=⟨_,rfl⟩
  rw [hT] at CR hrd hln
  obtain ⟨X,hX⟩:∃X:ByteArray,X=⟨T.toArray⟩:=⟨_,rfl⟩
  rw [<-hX] at CR
  have HXd:Hid (X.data.toList=T):=by show X.data.toList=T;rw [hX]
  have hXs:X.size=k:=by rw [hX];show T.toArray.size=k;simpa using hln
  have HGB:Hid (w.grownBy wr (some b)):=hgb
  have HRS:Hid (RS b s j wr):=hrs
  have HRD:Hid ((if k=0 then (2,j) else if badZ false T=true then (2,j) else if s.data.toList[j+k]?=some 46 then rdParts false s.data.toList (j+k+1) else (0,j+k))=(E,Q)):=hrd
  clear hk hT hX hgb hrs hrd hln
  by_cases hk0:k=0
  ·have e1:=emp_t2 (hXs.trans hk0)
   have HZ:Hid (E=2/\Q=j):=by
    have:=HRD.out
    rw [if_pos hk0] at this
    exact ⟨(congrArg Prod.fst this).symm,(congrArg Prod.snd this).symm⟩
   have HK:Hid (k=0):=hk0
   clear hk0 hXs hle
   go_wp2_with (go_at_call 90;refine CR.out.mono ?_)
   rintro e w1 ⟨rfl,hr1,hg1⟩
   have HF:Hid (RS b s Q w1/\w.grownBy w1 (some b)):=by
    refine ⟨?_,gb_trans HGB.out hg1⟩
    rw [HZ.out.2];rw [HK.out] at hr1;exact hr1
   clear hr1 hg1
   go_wp2
   go_ret
   exact ⟨ret_int HZ.out.1.symm,HF.out.1,HF.out.2⟩
  ·have e1:=emp_f2 (fun h=>hk0 (hXs.symm.trans h))
   have HNE:Hid (X.data.toList.isEmpty=false):=by show X.data.toList.isEmpty=false;rw [<-Lib.toList_data];exact e1
   have HK:Hid (¬ k=0):=hk0
   have hXb:X.size < 2 ^ 62:=by omega
   have HLE:Hid (j+k<=s.size):=hle
   clear hk0 hXs hle
   go_wp2_with (go_at_call 90;refine CR.out.mono ?_)
   rintro e w1 ⟨rfl,hr1,hg1⟩
   have HR1:Hid (RS b s (j+k) w1):=hr1
   have HG1:Hid (w.grownBy w1 (some b)):=gb_trans HGB.out hg1
   clear hr1 hg1
   have HB:Hid (badZ false T=false):=rfl
   cases hc:decide (s.data.toList[j+k]?=some 46) with
   | true =>
    have hc':=of_decide_eq_true hc
    have HT:Hid (rdParts false s.data.toList (j+k+1)=(E,Q)):=by
     have:=HRD.out
     rw [if_neg HK.out,if_neg (by rw [HB.out];simp),if_pos hc'] at this
     exact this
    have CT:Hid (Calls Tryz.prog 60 #[.pointer (some ⟨b,0,none⟩),.string ⟨#[46]⟩] w1 fun e w'=>e=.returned (.bool true)/\RS b s (j+k+1) w'/\w1.grownBy w' (some b)):=take_yes b s (j+k) 46 w1 hc' HR1.out hs
    have HLT:Hid (j+k < s.size):=by have:=(List.getElem?_eq_some_iff.1 hc').1;rw [HSL.out] at this;exact this
    clear hc hc'
    go_wp2_with (first | (go_at_call 60;refine CT.out.mono ?_))
    rintro e w3 ⟨rfl,hr3,hg3⟩
    have HF:Hid (RS b s (j+k+1) w3/\w.grownBy w3 (some b)):=⟨hr3,gb_trans HG1.out hg3⟩
    clear hr3 hg3
    go_wp2
    go_roundw
    case rel=>exact ⟨j+k+1,HLT.out,HF.out.1,HF.out.2,HT.out⟩
    case measure =>
     rw [HPL.out,HF.out.1.place]
     have:=HLT.out
     omega
   | false =>
    have hc':=of_decide_eq_false hc
    have HT:Hid (E=0/\Q=j+k):=by
     have:=HRD.out
     rw [if_neg HK.out,if_neg (by rw [HB.out];simp),if_neg hc'] at this
     exact ⟨(congrArg Prod.fst this).symm,(congrArg Prod.snd this).symm⟩
    have CT:Hid (Calls Tryz.prog 60 #[.pointer (some ⟨b,0,none⟩),.string ⟨#[46]⟩] w1 fun e w'=>e=.returned (.bool false)/\RS b s (j+k) w'/\w1.grownBy w' (some b)):=take_no b s (j+k) 46 w1 HLE.out hc' HR1.out hs
    clear hc hc'
    go_wp2_with (first | (go_at_call 60;refine CT.out.mono ?_))
    rintro e w3 ⟨rfl,hr3,hg3⟩
    have HF:Hid (RS b s (j+k) w3/\w.grownBy w3 (some b)):=⟨hr3,gb_trans HG1.out hg3⟩
    clear hr3 hg3
    go_wp2
    go_ret
    exact ⟨ret_int HT.out.1.symm,by rw [HT.out.2];exact HF.out.1,HF.out.2⟩
open Go.RowKit
set_option linter.unusedVariables false
theorem gb_own {w w1:World} {o:Obj} (h:(w.alloc o).grownBy w1 (some w.heap.size)):w.grownBy w1 none :=
 ⟨h.os,h.tape,h.output,by have:=h.size;simp at this;omega,fun k hk _=>by rw [h.block k (by simp;omega) (by simp;omega)];exact Lib.alloc_old w o k hk⟩
set_option maxHeartbeats 400000 in
theorem isParts_at (s:ByteArray) (kind:Int) (st:Bool) (w:World) (h0:s.size ≠ 0) (hs:s.size < 2 ^ 62)
  (hk:∀b w,RS b s 0 w->Calls Tryz.prog 96 #[.pointer (some ⟨b,0,none⟩),.int .i64 kind] w fun e w'=>e=.returned (.int .i64 (rdParts st s.data.toList 0).1)/\RS b s (rdParts st s.data.toList 0).2 w'/\w.grownBy w' (some b)) :
  Calls Tryz.prog 67 #[.string s,.int .i64 kind] w fun e w'=>e=.returned (.bool (okParts st s.data.toList))/\w.grownBy w' none:=by
 obtain ⟨R,hR⟩:∃R,R=okParts st s.data.toList:=⟨_,rfl⟩
 obtain ⟨E,Q,hEQ⟩:∃E Q,rdParts st s.data.toList 0=(E,Q):=⟨_,_,rfl⟩
 have HR:Hid (R=(decide (E=0) && decide (Q=s.size))):=by
  show R=_
  have hne:s.data.toList ≠ []:=fun e=>h0 (by show s.data.size=0;rw [<-Array.length_toList,e];rfl)
  rw [hR,<-parts_ok st _ hne,hEQ,Bool.eq_iff_iff]
  simp [Prod.ext_iff]
 have HK:Hid (∀b w,RS b s 0 w->Calls Tryz.prog 96 #[.pointer (some ⟨b,0,none⟩),.int .i64 kind] w fun e w'=>e=.returned (.int .i64 E)/\RS b s Q w'/\w.grownBy w' (some b)):=by
  intro b w hb
  have:=hk b w hb
  rw [hEQ] at this;exact this
 rw [<-hR]
 clear hR hEQ hk h0
 go_enter Tryz.func67,Tryz.ntmps67
 go_wp2_with (go_at_call 96;refine (HK.out _ _ ⟨_,heap_alloc_new w _⟩).mono ?_)
 rintro e w1 ⟨rfl,hr1,hg1⟩
 have HG:Hid (w.grownBy w1 none):=gb_own hg1
 have CE:Hid (Calls Tryz.prog 59 #[.pointer (some ⟨w.heap.size,0,none⟩)] w1 fun e w'=>e=.returned (.bool (decide (Q=s.size)))/\∃n,w'=w1.drewN n):=ended_any _ s Q w1 hr1
 clear hg1 hr1
 cases hE:(E == 0) with
 | false =>
  have HZ:Hid (R=false):=by show R=false;rw [HR.out,decide_eq_false (by simpa using hE)];rfl
  go_wp2
  go_ret
  exact ⟨ret_bool HZ.out.symm,HG.out⟩
 | true =>
  have HZ:Hid (R=decide (Q=s.size)):=by
   show R=_
   have h1:E=0:=by simpa using hE
   rw [HR.out,decide_eq_true h1,Bool.true_and]
  obtain ⟨q,hq⟩:∃q,decide (Q=s.size)=q:=⟨_,rfl⟩
  rw [hq] at CE HZ
  clear hq
  go_wp2_with (first | (go_at_call 59;refine CE.out.mono ?_))
  rintro e w2 ⟨rfl,n,hn⟩
  have HG2:Hid (w.grownBy w2 none):=by show w.grownBy w2 none;rw [hn];exact gb_drew HG.out n
  clear hn
  go_wp2
  go_ret
  exact ⟨ret_bool HZ.out.symm,HG2.out⟩
theorem isP_pre (s:ByteArray) (w:World) (h0:s.size ≠ 0) (hs:s.size < 2 ^ 62):Calls Tryz.prog 67 #[.string s,.int .i64 0] w fun e w'=>e=.returned (.bool (okParts true s.data.toList))/\w.grownBy w' none :=
 isParts_at s 0 true w h0 hs (fun b w h=>skipP b s 0 w (Nat.zero_le _) h hs)
theorem isP_build (s:ByteArray) (w:World) (h0:s.size ≠ 0) (hs:s.size < 2 ^ 62):Calls Tryz.prog 67 #[.string s,.int .i64 1] w fun e w'=>e=.returned (.bool (okParts false s.data.toList))/\w.grownBy w' none :=
 isParts_at s 1 false w h0 hs (fun b w h=>skipB b s 0 w (Nat.zero_le _) h hs)
theorem okp_empty (b:Bool) (s:ByteArray) (h:s.size=0):okParts b s.data.toList=true:=by
 have:s.data.toList=[]:=List.length_eq_zero_iff.1 (by simpa using h)
 rw [this];rfl
theorem ix0 (a1 a2 a3:Int) (w:World):(Instr.index 109 (.agg #[.int .i64 a1,.int .i64 a2,.int .i64 a3]) (.int .i64 0)).run Tryz.prog w=.ok (.int .i64 a1) w:=by kernel_rfl
theorem ix1 (a1 a2 a3:Int) (w:World):(Instr.index 109 (.agg #[.int .i64 a1,.int .i64 a2,.int .i64 a3]) (.int .i64 1)).run Tryz.prog w=.ok (.int .i64 a2) w:=by kernel_rfl
theorem ix2 (a1 a2 a3:Int) (w:World):(Instr.index 109 (.agg #[.int .i64 a1,.int .i64 a2,.int .i64 a3]) (.int .i64 2)).run Tryz.prog w=.ok (.int .i64 a3) w:=by kernel_rfl
set_option maxHeartbeats 1600000 in
theorem psound_any (a1 a2 a3:Int) (a4 a5:ByteArray) (w:World) (h4:a4.size < 2 ^ 62) (h5:a5.size < 2 ^ 62) :
  Calls Tryz.prog 40 #[.agg #[.int .i64 a1,.int .i64 a2,.int .i64 a3,.string a4,.string a5]] w fun e w'=>e=.returned (.bool (soundV ⟨a1,a2,a3,a4.data.toList,a5.data.toList⟩))/\w.grownBy w' none:=by
 obtain ⟨R,hR⟩:∃R,R=soundV ⟨a1,a2,a3,a4.data.toList,a5.data.toList⟩:=⟨_,rfl⟩
 obtain ⟨x4,hx4⟩:∃x,x=okParts true a4.data.toList:=⟨_,rfl⟩
 obtain ⟨x5,hx5⟩:∃x,x=okParts false a5.data.toList:=⟨_,rfl⟩
 have HR:Hid (R=(bound a1 && (bound a2 && (bound a3 && (x4 && x5))))):=by show R=_;rw [hR,hx4,hx5];rfl
 have C4:Hid (a4.size ≠ 0->∀w,Calls Tryz.prog 67 #[.string a4,.int .i64 0] w fun e w'=>e=.returned (.bool x4)/\w.grownBy w' none):=fun h w=>by rw [hx4];exact isP_pre a4 w h h4
 have C5:Hid (a5.size ≠ 0->∀w,Calls Tryz.prog 67 #[.string a5,.int .i64 1] w fun e w'=>e=.returned (.bool x5)/\w.grownBy w' none):=fun h w=>by rw [hx5];exact isP_build a5 w h h5
 have E4:Hid (a4.size=0->x4=true):=fun h=>by rw [hx4];exact okp_empty true a4 h
 have E5:Hid (a5.size=0->x5=true):=fun h=>by rw [hx5];exact okp_empty false a5 h
 have GA:Hid (∀o,w.grownBy (w.alloc o) none):=fun o=>gb_alloc (gb_refl w none) o
 rw [<-hR]
 clear hR hx4 hx5 h4 h5
 go_enter Tryz.func40,Tryz.ntmps40
 go_wp2
 obtain ⟨W,hW⟩:∃W,w.alloc (.cells #[.int .i64 a1,.int .i64 a2,.int .i64 a3,.string a4,.string a5] 35)=W:=⟨_,rfl⟩
 have HG:Hid (w.grownBy W none):=by show w.grownBy W none;rw [<-hW];exact GA.out _
 obtain ⟨A,hA⟩:∃A,w.heap.size=A:=⟨_,rfl⟩
 have STa:Hid (St A a1 a2 a3 a4 a5 W):=by
  show St A a1 a2 a3 a4 a5 W
  rw [<-hW,<-hA];exact st_row (t:=35) (heap_alloc_new w _)
 rw [hW,hA]
 clear hW hA GA
 go_loop [12] (fun i=>∃k:Nat,k<=3/\i=.int .i64 k/\(1<=k->bound a1=true)/\(2<=k->bound a2=true)/\(3<=k->bound a3=true)) (fun i=>3 - (intOf i).toNat)
 case atStart=>exact ⟨0,by omega,rfl,by omega,by omega,by omega⟩
 case round =>
  obtain ⟨k,hk,rfl,k1,k2,k3⟩:=hrel
  have K1:Hid (1<=k->bound a1=true):=k1
  have K2:Hid (2<=k->bound a2=true):=k2
  have K3:Hid (3<=k->bound a3=true):=k3
  clear k1 k2 k3
  rcases (show k=0\/k=1\/k=2\/k=3 by omega) with rfl | rfl | rfl | rfl
  ·clear hk
   have ix:=ix0 a1 a2 a3 W
   by_cases b0:0<=a1
   ·have n0:decide (a1 < 0)=false:=decide_eq_false (by omega)
    by_cases b1:a1<=1000000000
    ·have n1:decide (1000000000 < a1)=false:=decide_eq_false (by omega)
     have BB:Hid (0<=a1/\a1<=1000000000):=⟨b0,b1⟩
     clear b0 b1
     go_wp2
     go_round
     case rel=>exact ⟨1,by omega,rfl,fun _=>bound_iff.2 BB.out,by omega,by omega⟩
     case measure=>simp [intOf]
    ·have n1:decide (1000000000 < a1)=true:=decide_eq_true (by omega)
     have HZ:Hid (R=false):=by show R=false;rw [HR.out,show bound a1=false by cases hb:bound a1 with | true=>exact absurd (bound_iff.1 hb) (by omega) | false=>rfl];simp
     clear b0 b1
     go_wp2
     go_ret
     exact ⟨ret_bool HZ.out.symm,HG.out⟩
   ·have HZ:Hid (R=false):=by show R=false;rw [HR.out,show bound a1=false by cases hb:bound a1 with | true=>exact absurd (bound_iff.1 hb) (by omega) | false=>rfl];simp
    go_wp2
    go_ret
    exact ⟨ret_bool HZ.out.symm,HG.out⟩
  ·clear hk
   have ix:=ix1 a1 a2 a3 W
   by_cases b0:0<=a2
   ·have n0:decide (a2 < 0)=false:=decide_eq_false (by omega)
    by_cases b1:a2<=1000000000
    ·have n1:decide (1000000000 < a2)=false:=decide_eq_false (by omega)
     have BB:Hid (0<=a2/\a2<=1000000000):=⟨b0,b1⟩
     clear b0 b1
     go_wp2
     go_round
     case rel=>exact ⟨2,by omega,rfl,fun _=>K1.out (by omega),fun _=>bound_iff.2 BB.out,by omega⟩
     case measure=>simp [intOf]
    ·have n1:decide (1000000000 < a2)=true:=decide_eq_true (by omega)
     have HZ:Hid (R=false):=by show R=false;rw [HR.out,show bound a2=false by cases hb:bound a2 with | true=>exact absurd (bound_iff.1 hb) (by omega) | false=>rfl];simp
     clear b0 b1
     go_wp2
     go_ret
     exact ⟨ret_bool HZ.out.symm,HG.out⟩
   ·have HZ:Hid (R=false):=by show R=false;rw [HR.out,show bound a2=false by cases hb:bound a2 with | true=>exact absurd (bound_iff.1 hb) (by omega) | false=>rfl];simp
    go_wp2
    go_ret
    exact ⟨ret_bool HZ.out.symm,HG.out⟩
  ·clear hk
   have ix:=ix2 a1 a2 a3 W
   by_cases b0:0<=a3
   ·have n0:decide (a3 < 0)=false:=decide_eq_false (by omega)
    by_cases b1:a3<=1000000000
    ·have n1:decide (1000000000 < a3)=false:=decide_eq_false (by omega)
     have BB:Hid (0<=a3/\a3<=1000000000):=⟨b0,b1⟩
     clear b0 b1
     go_wp2
     go_round
     case rel=>exact ⟨3,by omega,rfl,fun _=>K1.out (by omega),fun _=>K2.out (by omega),fun _=>bound_iff.2 BB.out⟩
     case measure=>simp [intOf]
    ·have n1:decide (1000000000 < a3)=true:=decide_eq_true (by omega)
     have HZ:Hid (R=false):=by show R=false;rw [HR.out,show bound a3=false by cases hb:bound a3 with | true=>exact absurd (bound_iff.1 hb) (by omega) | false=>rfl];simp
     clear b0 b1
     go_wp2
     go_ret
     exact ⟨ret_bool HZ.out.symm,HG.out⟩
   ·have HZ:Hid (R=false):=by show R=false;rw [HR.out,show bound a3=false by cases hb:bound a3 with | true=>exact absurd (bound_iff.1 hb) (by omega) | false=>rfl];simp
    go_wp2
    go_ret
    exact ⟨ret_bool HZ.out.symm,HG.out⟩
  ·have HB:Hid (R=(x4 && x5)):=by show R=_;rw [HR.out,K1.out (by omega),K2.out (by omega),K3.out (by omega)];rfl
   obtain ⟨s1,s2,s3,s4,s5⟩:=STa.out
   clear hk
   by_cases z4:a4.size=0
   ·have e4:=emp_t2 z4
    have hx4:Hid (x4=true):=E4.out z4
    clear z4
    by_cases z5:a5.size=0
    ·have e5:=emp_t2 z5
     have HZ:Hid (R=true):=by show R=true;rw [HB.out,hx4.out,E5.out z5];rfl
     clear z5
     go_wp2
     go_ret
     exact ⟨ret_bool HZ.out.symm,HG.out⟩
    ·have e5:=emp_f2 z5
     have C:=C5.out z5
     have HC:Hid (∀w,Calls Tryz.prog 67 #[.string a5,.int .i64 1] w fun e w'=>e=.returned (.bool x5)/\w.grownBy w' none):=C
     have HZ:Hid (R=x5):=by show R=x5;rw [HB.out,hx4.out];rfl
     clear z5 C
     go_wp2_with (first | (go_at_call 67;refine (HC.out _).mono ?_;rintro e w5 ⟨rfl,hg5⟩))
     go_ret
     exact ⟨ret_bool HZ.out.symm,gb_trans HG.out hg5⟩
   ·have e4:=emp_f2 z4
    have HC4:Hid (∀w,Calls Tryz.prog 67 #[.string a4,.int .i64 0] w fun e w'=>e=.returned (.bool x4)/\w.grownBy w' none):=C4.out z4
    clear z4
    go_wp2_with (go_at_call 67;refine (HC4.out _).mono ?_)
    rintro e w4 rfl hg4
    have c5:w4.cell? ⟨A,4,none⟩=some (.string a5):=hg4.cell s5 (by simp)
    have HG4:Hid (w.grownBy w4 none):=gb_trans HG.out hg4
    clear hg4
    cases x4 with
    | false =>
     have HZ:Hid (R=false):=by show R=false;rw [HB.out];rfl
     go_wp2
     go_ret
     exact ⟨ret_bool HZ.out.symm,HG4.out⟩
    | true =>
     have HZ5:Hid (R=x5):=by show R=x5;rw [HB.out];rfl
     by_cases z5:a5.size=0
     ·have e5:=emp_t2 z5
      have HZ:Hid (R=true):=by show R=true;rw [HZ5.out,E5.out z5]
      clear z5
      go_wp2
      go_ret
      exact ⟨ret_bool HZ.out.symm,HG4.out⟩
     ·have e5:=emp_f2 z5
      have HC:Hid (∀w,Calls Tryz.prog 67 #[.string a5,.int .i64 1] w fun e w'=>e=.returned (.bool x5)/\w.grownBy w' none):=C5.out z5
      clear z5
      go_wp2_with (first | (go_at_call 67;refine (HC.out _).mono ?_;rintro e w5 ⟨rfl,hg5⟩))
      go_ret
      exact ⟨ret_bool HZ5.out.symm,gb_trans HG4.out hg5⟩
end Go.Proofs.YtonfldbigenfhaaGreatDoor
