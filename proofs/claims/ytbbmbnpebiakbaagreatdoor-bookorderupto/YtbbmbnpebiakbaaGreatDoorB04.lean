import Derived.Test.YtbbmbnpebiakbaaGreatDoorB03
import Derived.Test.YtbbmbnpebiakbaaGreatDoorB01
namespace Go.Proofs.YtbbmbnpebiakbaaGreatDoor
open Go.RowKit
set_option linter.unusedVariables false
theorem emp_t2 {a:ByteArray} (h:a.size=0):a.toList.isEmpty=true:=by
 rw [Lib.toList_data,List.isEmpty_iff];exact List.length_eq_zero_iff.1 (by simpa using h)
theorem emp_f2 {a:ByteArray} (h:a.size ≠ 0):a.toList.isEmpty=false:=by
 rw [Lib.toList_data]
 cases hl:a.data.toList with
 | nil=>exact absurd (show a.size=0 from by show a.data.size=0;rw [<-Array.length_toList,hl];rfl) h
 | cons c l=>rfl
theorem RS.grow {b:Nat} {s:ByteArray} {i:Nat} {w w':World} (h:RS b s i w) (hg:w.grownBy w' none):RS b s i w':=by
 obtain ⟨t,h⟩:=h
 exact ⟨t,by rw [hg.block b ((Array.getElem?_eq_some_iff.1 h).1) (by simp)];exact h⟩
set_option maxHeartbeats 400000 in
theorem needless_any (s:ByteArray) (w:World):Calls Tryz.prog 158 #[.string s] w fun e w'=>e=.returned (.bool (decide (1 < s.data.toList.length) && decide (s.data.toList[0]?=some 48)))/\w'=w:=by
 by_cases h1:1 < s.size
 ·have h0:0 < s.size:=by omega
  have hl:decide (1 < s.data.toList.length)=true:=by simp;exact h1
  rw [hl,Bool.true_and,get_data s 0 h0]
  cases hz:((s[0].toNat:Int) == 48) with
  | true =>
   have hc:s[0]=48:=UInt8.toNat_inj.1 (by have:=eq_of_beq hz;have e48:(48:UInt8).toNat=48:=rfl;omega)
   have HZ:Hid (decide (some s[0]=some (48:UInt8))=true):=by show decide _=true;rw [hc];rfl
   rw [HZ.out]
   clear hc hl
   go_enter Tryz.func158,Tryz.ntmps158
   go_wp2
   go_ret
   exact ⟨rfl,rfl⟩
  | false =>
   have HZ:Hid (decide (some s[0]=some (48:UInt8))=false):=by
    show decide _=false
    apply decide_eq_false
    intro e
    rw [Option.some.inj e] at hz
    exact absurd hz (by decide)
   rw [HZ.out]
   clear hl
   go_enter Tryz.func158,Tryz.ntmps158
   go_wp2
   go_ret
   exact ⟨rfl,rfl⟩
 ·have hl:decide (1 < s.data.toList.length)=false:=by simp;exact Nat.le_of_not_lt h1
  rw [hl,Bool.false_and]
  clear hl
  go_enter Tryz.func158,Tryz.ntmps158
  go_wp2
  go_ret
  exact ⟨rfl,rfl⟩
set_option maxHeartbeats 1600000 in
theorem skipP (b:Nat) (s:ByteArray) (i:Nat) (w:World) (hi:i<=s.size) (h:RS b s i w) (hs:s.size < 2 ^ 62) :
  Calls Tryz.prog 159 #[.pointer (some ⟨b,0,none⟩),.int .i64 0] w fun e w'=>e=.returned (.int .i64 (rdParts true s.data.toList i).1)/\RS b s (rdParts true s.data.toList i).2 w'/\w.grownBy w' (some b):=by
 have HI:Hid (RS b s i w/\i<=s.size):=⟨h,hi⟩
 obtain ⟨E,Q,hEQ⟩:∃E Q,rdParts true s.data.toList i=(E,Q):=⟨_,_,rfl⟩
 rw [hEQ]
 have HEQ:Hid (rdParts true s.data.toList i=(E,Q)):=hEQ
 have hsl:s.data.toList.length=s.size:=by simp
 have HSL:Hid (s.data.toList.length=s.size):=hsl
 clear h hi hEQ hsl
 go_enter Tryz.func159,Tryz.ntmps159
 go_wp2
 go_loopw [] (fun wr=>∃j:Nat,j<=s.size/\RS b s j wr/\w.grownBy wr (some b)/\rdParts true s.data.toList j=(E,Q)) (fun wr=>s.size - placeOf b wr)
 case atStart=>exact ⟨i,HI.out.2,HI.out.1,gb_refl _ _,HEQ.out⟩
 case round =>
  obtain ⟨j,hj,hrs,hgb,hrd⟩:=hrel
  have CR:Hid (Calls Tryz.prog 156 #[.pointer (some ⟨b,0,none⟩),.func (.func 167) #[] #[]] wr fun e w'=>e=.returned (.string ⟨(subT s.data.toList j (runN isP s.data.toList j)).toArray⟩)/\RS b s (j+runN isP s.data.toList j) w'/\wr.grownBy w' (some b)):=run_parts b s j wr hj hrs hs
  have HPL:Hid (placeOf b wr=j):=hrs.place
  have d1:=hrs.c1
  have hle:j+runN isP s.data.toList j<=s.size:=by have:=runN_le isP s.data.toList j (by rw [HSL.out];exact hj);rw [HSL.out] at this;exact this
  have hln:=sub_len s.data.toList j (runN isP s.data.toList j) (by rw [HSL.out];exact hle)
  rw [rdParts_eq] at hrd
  obtain ⟨k,hk⟩:∃k,runN isP s.data.toList j=k:=⟨_,rfl⟩
  rw [hk] at CR hrd hle hln
  obtain ⟨T,hT⟩:∃T,subT s.data.toList j k=T:=⟨_,rfl⟩
  rw [hT] at CR hrd hln
  obtain ⟨X,hX⟩:∃X:ByteArray,X=⟨T.toArray⟩:=⟨_,rfl⟩
  rw [<-hX] at CR
  have HXd:Hid (X.data.toList=T):=by show X.data.toList=T;rw [hX]
  have hXs:X.size=k:=by rw [hX];show T.toArray.size=k;simpa using hln
  have HGB:Hid (w.grownBy wr (some b)):=hgb
  have HRS:Hid (RS b s j wr):=hrs
  have HRD:Hid ((if k=0 then (2,j) else if badZ true T=true then (2,j) else if s.data.toList[j+k]?=some 46 then rdParts true s.data.toList (j+k+1) else (0,j+k))=(E,Q)):=hrd
  clear hk hT hX hgb hrs hrd hln
  by_cases hk0:k=0
  ·have e1:=emp_t2 (hXs.trans hk0)
   have HZ:Hid (E=2/\Q=j):=by
    have:=HRD.out
    rw [if_pos hk0] at this
    exact ⟨(congrArg Prod.fst this).symm,(congrArg Prod.snd this).symm⟩
   have HK:Hid (k=0):=hk0
   clear hk0 hXs hle
   go_wp2_with (go_at_call 156;refine CR.out.mono ?_)
   rintro e w1 ⟨rfl,hr1,hg1⟩
   have HF:Hid (RS b s Q w1/\w.grownBy w1 (some b)):=by
    refine ⟨?_,gb_trans HGB.out hg1⟩
    rw [HZ.out.2];rw [HK.out] at hr1;exact hr1
   clear hr1 hg1
   go_wp2
   go_ret
   exact ⟨ret_int HZ.out.1.symm,HF.out.1,HF.out.2⟩
  ·have e1:=emp_f2 (fun h=>hk0 (hXs.symm.trans h))
   have HNE:Hid (X.data.toList.isEmpty=false):=by show X.data.toList.isEmpty=false;rw [<-Lib.toList_data];exact e1
   have HK:Hid (¬ k=0):=hk0
   have hXb:X.size < 2 ^ 62:=by omega
   have HLE:Hid (j+k<=s.size):=hle
   clear hk0 hXs hle
   go_wp2_with (go_at_call 156;refine CR.out.mono ?_)
   rintro e w1 ⟨rfl,hr1,hg1⟩
   have HR1:Hid (RS b s (j+k) w1):=hr1
   have HG1:Hid (w.grownBy w1 (some b)):=gb_trans HGB.out hg1
   clear hr1 hg1
   have CD:Hid (∀w,Calls Tryz.prog 150 #[.string X] w fun e w'=>e=.returned (.bool (numT X.data.toList))/\w.grownBy w' none):=fun w=>isDigits_any X w hXb
   obtain ⟨dX,hdX⟩:∃d,numT X.data.toList=d:=⟨_,rfl⟩
   rw [hdX] at CD
   have HDX:Hid (T.all isD=dX):=by
    show T.all isD=dX
    rw [<-hdX];unfold numT;rw [HNE.out,HXd.out];rfl
   obtain ⟨z,hz⟩:∃z,(decide (1 < X.data.toList.length) && decide (X.data.toList[0]?=some 48))=z:=⟨_,rfl⟩
   have CZ:Hid (∀w,Calls Tryz.prog 158 #[.string X] w fun e w'=>e=.returned (.bool z)/\w'=w):=fun w=>by rw [<-hz];exact needless_any X w
   have HBZ:Hid (badZ true T=(dX && z)):=by
    show badZ true T=_
    rw [<-hz,<-HDX.out,HXd.out];rfl
   clear hdX hz
   go_wp2_with (go_at_call 150;refine (CD.out _).mono ?_)
   rintro e w2 ⟨rfl,hg2⟩
   replace HR1:Hid (RS b s (j+k) w2):=HR1.out.grow hg2
   replace HG1:Hid (w.grownBy w2 (some b)):=gb_trans HG1.out (gb_weak hg2 _)
   clear hg2
   cases dX with
   | false =>
    have HB:Hid (badZ true T=false):=by show badZ true T=false;rw [HBZ.out];rfl
    cases hc:decide (s.data.toList[j+k]?=some 46) with
    | true =>
     have hc':=of_decide_eq_true hc
     have HT:Hid (rdParts true s.data.toList (j+k+1)=(E,Q)):=by
      have:=HRD.out
      rw [if_neg HK.out,if_neg (by rw [HB.out];simp),if_pos hc'] at this
      exact this
     have CT:Hid (Calls Tryz.prog 146 #[.pointer (some ⟨b,0,none⟩),.string ⟨#[46]⟩] w2 fun e w'=>e=.returned (.bool true)/\RS b s (j+k+1) w'/\w2.grownBy w' (some b)):=take_yes b s (j+k) 46 w2 hc' HR1.out hs
     have HLT:Hid (j+k < s.size):=by have:=(List.getElem?_eq_some_iff.1 hc').1;rw [HSL.out] at this;exact this
     clear hc hc'
     go_wp2_with (first | (go_at_call 146;refine CT.out.mono ?_))
     rintro e w3 ⟨rfl,hr3,hg3⟩
     have HF:Hid (RS b s (j+k+1) w3/\w.grownBy w3 (some b)):=⟨hr3,gb_trans HG1.out hg3⟩
     clear hr3 hg3
     go_wp2
     go_roundw
     case rel=>exact ⟨j+k+1,HLT.out,HF.out.1,HF.out.2,HT.out⟩
     case measure =>
      rw [HPL.out,HF.out.1.place]
      have:=HLT.out
      omega
    | false =>
     have hc':=of_decide_eq_false hc
     have HT:Hid (E=0/\Q=j+k):=by
      have:=HRD.out
      rw [if_neg HK.out,if_neg (by rw [HB.out];simp),if_neg hc'] at this
      exact ⟨(congrArg Prod.fst this).symm,(congrArg Prod.snd this).symm⟩
     have CT:Hid (Calls Tryz.prog 146 #[.pointer (some ⟨b,0,none⟩),.string ⟨#[46]⟩] w2 fun e w'=>e=.returned (.bool false)/\RS b s (j+k) w'/\w2.grownBy w' (some b)):=take_no b s (j+k) 46 w2 HLE.out hc' HR1.out hs
     clear hc hc'
     go_wp2_with (first | (go_at_call 146;refine CT.out.mono ?_))
     rintro e w3 ⟨rfl,hr3,hg3⟩
     have HF:Hid (RS b s (j+k) w3/\w.grownBy w3 (some b)):=⟨hr3,gb_trans HG1.out hg3⟩
     clear hr3 hg3
     go_wp2
     go_ret
     exact ⟨ret_int HT.out.1.symm,by rw [HT.out.2];exact HF.out.1,HF.out.2⟩
   | true =>
    cases z with
    | true =>
     have HZ:Hid (E=2/\Q=j):=by
      have:=HRD.out
      rw [if_neg HK.out,if_pos (by rw [HBZ.out];rfl)] at this
      exact ⟨(congrArg Prod.fst this).symm,(congrArg Prod.snd this).symm⟩
     have f1:=HR1.out.c1
     have f2:=HR1.out.f1
     go_wp2_with (first | (go_at_call 158;refine (CZ.out _).mono ?_;rintro e w' ⟨rfl,rfl⟩))
     go_ret
     exact ⟨ret_int HZ.out.1.symm,by rw [HZ.out.2];exact HR1.out.set j,gb_set HG1.out _ _⟩
    | false =>
     have HB:Hid (badZ true T=false):=by show badZ true T=false;rw [HBZ.out];rfl
     cases hc:decide (s.data.toList[j+k]?=some 46) with
     | true =>
      have hc':=of_decide_eq_true hc
      have HT:Hid (rdParts true s.data.toList (j+k+1)=(E,Q)):=by
       have:=HRD.out
       rw [if_neg HK.out,if_neg (by rw [HB.out];simp),if_pos hc'] at this
       exact this
      have CT:Hid (Calls Tryz.prog 146 #[.pointer (some ⟨b,0,none⟩),.string ⟨#[46]⟩] w2 fun e w'=>e=.returned (.bool true)/\RS b s (j+k+1) w'/\w2.grownBy w' (some b)):=take_yes b s (j+k) 46 w2 hc' HR1.out hs
      have HLT:Hid (j+k < s.size):=by have:=(List.getElem?_eq_some_iff.1 hc').1;rw [HSL.out] at this;exact this
      clear hc hc'
      go_wp2_with (first | (go_at_call 158;refine (CZ.out _).mono ?_;rintro e w' ⟨rfl,rfl⟩) | (go_at_call 146;refine CT.out.mono ?_))
      rintro e w3 ⟨rfl,hr3,hg3⟩
      have HF:Hid (RS b s (j+k+1) w3/\w.grownBy w3 (some b)):=⟨hr3,gb_trans HG1.out hg3⟩
      clear hr3 hg3
      go_wp2
      go_roundw
      case rel=>exact ⟨j+k+1,HLT.out,HF.out.1,HF.out.2,HT.out⟩
      case measure =>
       rw [HPL.out,HF.out.1.place]
       have:=HLT.out
       omega
     | false =>
      have hc':=of_decide_eq_false hc
      have HT:Hid (E=0/\Q=j+k):=by
       have:=HRD.out
       rw [if_neg HK.out,if_neg (by rw [HB.out];simp),if_neg hc'] at this
       exact ⟨(congrArg Prod.fst this).symm,(congrArg Prod.snd this).symm⟩
      have CT:Hid (Calls Tryz.prog 146 #[.pointer (some ⟨b,0,none⟩),.string ⟨#[46]⟩] w2 fun e w'=>e=.returned (.bool false)/\RS b s (j+k) w'/\w2.grownBy w' (some b)):=take_no b s (j+k) 46 w2 HLE.out hc' HR1.out hs
      clear hc hc'
      go_wp2_with (first | (go_at_call 158;refine (CZ.out _).mono ?_;rintro e w' ⟨rfl,rfl⟩) | (go_at_call 146;refine CT.out.mono ?_))
      rintro e w3 ⟨rfl,hr3,hg3⟩
      have HF:Hid (RS b s (j+k) w3/\w.grownBy w3 (some b)):=⟨hr3,gb_trans HG1.out hg3⟩
      clear hr3 hg3
      go_wp2
      go_ret
      exact ⟨ret_int HT.out.1.symm,by rw [HT.out.2];exact HF.out.1,HF.out.2⟩
set_option maxHeartbeats 1600000 in
theorem skipB (b:Nat) (s:ByteArray) (i:Nat) (w:World) (hi:i<=s.size) (h:RS b s i w) (hs:s.size < 2 ^ 62) :
  Calls Tryz.prog 159 #[.pointer (some ⟨b,0,none⟩),.int .i64 1] w fun e w'=>e=.returned (.int .i64 (rdParts false s.data.toList i).1)/\RS b s (rdParts false s.data.toList i).2 w'/\w.grownBy w' (some b):=by
 have HI:Hid (RS b s i w/\i<=s.size):=⟨h,hi⟩
 obtain ⟨E,Q,hEQ⟩:∃E Q,rdParts false s.data.toList i=(E,Q):=⟨_,_,rfl⟩
 rw [hEQ]
 have HEQ:Hid (rdParts false s.data.toList i=(E,Q)):=hEQ
 have hsl:s.data.toList.length=s.size:=by simp
 have HSL:Hid (s.data.toList.length=s.size):=hsl
 clear h hi hEQ hsl
 go_enter Tryz.func159,Tryz.ntmps159
 go_wp2
 go_loopw [] (fun wr=>∃j:Nat,j<=s.size/\RS b s j wr/\w.grownBy wr (some b)/\rdParts false s.data.toList j=(E,Q)) (fun wr=>s.size - placeOf b wr)
 case atStart=>exact ⟨i,HI.out.2,HI.out.1,gb_refl _ _,HEQ.out⟩
 case round =>
  obtain ⟨j,hj,hrs,hgb,hrd⟩:=hrel
  have CR:Hid (Calls Tryz.prog 156 #[.pointer (some ⟨b,0,none⟩),.func (.func 167) #[] #[]] wr fun e w'=>e=.returned (.string ⟨(subT s.data.toList j (runN isP s.data.toList j)).toArray⟩)/\RS b s (j+runN isP s.data.toList j) w'/\wr.grownBy w' (some b)):=run_parts b s j wr hj hrs hs
  have HPL:Hid (placeOf b wr=j):=hrs.place
  have d1:=hrs.c1
  have hle:j+runN isP s.data.toList j<=s.size:=by have:=runN_le isP s.data.toList j (by rw [HSL.out];exact hj);rw [HSL.out] at this;exact this
  have hln:=sub_len s.data.toList j (runN isP s.data.toList j) (by rw [HSL.out];exact hle)
  rw [rdParts_eq] at hrd
  obtain ⟨k,hk⟩:∃k,runN isP s.data.toList j=k:=⟨_,rfl⟩
  rw [hk] at CR hrd hle hln
  obtain ⟨T,hT⟩:∃T,subT s.data.toList j k=T:=⟨_,rfl⟩
  rw [hT] at CR hrd hln
  obtain ⟨X,hX⟩:∃X:ByteArray,X=⟨T.toArray⟩:=⟨_,rfl⟩
  rw [<-hX] at CR
  have HXd:Hid (X.data.toList=T):=by show X.data.toList=T;rw [hX]
  have hXs:X.size=k:=by rw [hX];show T.toArray.size=k;simpa using hln
  have HGB:Hid (w.grownBy wr (some b)):=hgb
  have HRS:Hid (RS b s j wr):=hrs
  have HRD:Hid ((if k=0 then (2,j) else if badZ false T=true then (2,j) else if s.data.toList[j+k]?=some 46 then rdParts false s.data.toList (j+k+1) else (0,j+k))=(E,Q)):=hrd
  clear hk hT hX hgb hrs hrd hln
  by_cases hk0:k=0
  ·have e1:=emp_t2 (hXs.trans hk0)
   have HZ:Hid (E=2/\Q=j):=by
    have:=HRD.out
    rw [if_pos hk0] at this
    exact ⟨(congrArg Prod.fst this).symm,(congrArg Prod.snd this).symm⟩
   have HK:Hid (k=0):=hk0
   clear hk0 hXs hle
   go_wp2_with (go_at_call 156;refine CR.out.mono ?_)
   rintro e w1 ⟨rfl,hr1,hg1⟩
   have HF:Hid (RS b s Q w1/\w.grownBy w1 (some b)):=by
    refine ⟨?_,gb_trans HGB.out hg1⟩
    rw [HZ.out.2];rw [HK.out] at hr1;exact hr1
   clear hr1 hg1
   go_wp2
   go_ret
   exact ⟨ret_int HZ.out.1.symm,HF.out.1,HF.out.2⟩
  ·have e1:=emp_f2 (fun h=>hk0 (hXs.symm.trans h))
   have HNE:Hid (X.data.toList.isEmpty=false):=by show X.data.toList.isEmpty=false;rw [<-Lib.toList_data];exact e1
   have HK:Hid (¬ k=0):=hk0
   have hXb:X.size < 2 ^ 62:=by omega
   have HLE:Hid (j+k<=s.size):=hle
   clear hk0 hXs hle
   go_wp2_with (go_at_call 156;refine CR.out.mono ?_)
   rintro e w1 ⟨rfl,hr1,hg1⟩
   have HR1:Hid (RS b s (j+k) w1):=hr1
   have HG1:Hid (w.grownBy w1 (some b)):=gb_trans HGB.out hg1
   clear hr1 hg1
   have HB:Hid (badZ false T=false):=rfl
   cases hc:decide (s.data.toList[j+k]?=some 46) with
   | true =>
    have hc':=of_decide_eq_true hc
    have HT:Hid (rdParts false s.data.toList (j+k+1)=(E,Q)):=by
     have:=HRD.out
     rw [if_neg HK.out,if_neg (by rw [HB.out];simp),if_pos hc'] at this
     exact this
    have CT:Hid (Calls Tryz.prog 146 #[.pointer (some ⟨b,0,none⟩),.string ⟨#[46]⟩] w1 fun e w'=>e=.returned (.bool true)/\RS b s (j+k+1) w'/\w1.grownBy w' (some b)):=take_yes b s (j+k) 46 w1 hc' HR1.out hs
    have HLT:Hid (j+k < s.size):=by have:=(List.getElem?_eq_some_iff.1 hc').1;rw [HSL.out] at this;exact this
    clear hc hc'
    go_wp2_with (first | (go_at_call 146;refine CT.out.mono ?_))
    rintro e w3 ⟨rfl,hr3,hg3⟩
    have HF:Hid (RS b s (j+k+1) w3/\w.grownBy w3 (some b)):=⟨hr3,gb_trans HG1.out hg3⟩
    clear hr3 hg3
    go_wp2
    go_roundw
    case rel=>exact ⟨j+k+1,HLT.out,HF.out.1,HF.out.2,HT.out⟩
    case measure =>
     rw [HPL.out,HF.out.1.place]
     have:=HLT.out
     omega
   | false =>
    have hc':=of_decide_eq_false hc
    have HT:Hid (E=0/\Q=j+k):=by
     have:=HRD.out
     rw [if_neg HK.out,if_neg (by rw [HB.out];simp),if_neg hc'] at this
     exact ⟨(congrArg Prod.fst this).symm,(congrArg Prod.snd this).symm⟩
    have CT:Hid (Calls Tryz.prog 146 #[.pointer (some ⟨b,0,none⟩),.string ⟨#[46]⟩] w1 fun e w'=>e=.returned (.bool false)/\RS b s (j+k) w'/\w1.grownBy w' (some b)):=take_no b s (j+k) 46 w1 HLE.out hc' HR1.out hs
    clear hc hc'
    go_wp2_with (first | (go_at_call 146;refine CT.out.mono ?_))
    rintro e w3 ⟨rfl,hr3,hg3⟩
    have HF:Hid (RS b s (j+k) w3/\w.grownBy w3 (some b)):=⟨hr3,gb_trans HG1.out hg3⟩
    clear hr3 hg3
    go_wp2
    go_ret
    exact ⟨ret_int HT.out.1.symm,by rw [HT.out.2];exact HF.out.1,HF.out.2⟩
open Go.RowKit
set_option linter.unusedVariables false
theorem val_take (T:List UInt8) (m:Nat) (hm:m < T.length):valN (T.take (m+1))=10 * valN (T.take m)+((T[m].toNat:Int) - 48):=by
 rw [List.take_succ_eq_append_getElem hm,valN_snoc];rfl
set_option maxHeartbeats 1600000 in
theorem num_any (b:Nat) (s:ByteArray) (i:Nat) (w:World) (hi:i<=s.size) (h:RS b s i w) (hs:s.size < 2 ^ 62) :
  Calls Tryz.prog 147 #[.pointer (some ⟨b,0,none⟩)] w fun e w'=>e=.returned (.tuple #[.int .i64 (rdNum s.data.toList i).2.1,.int .i64 (rdNum s.data.toList i).1])/\RS b s (rdNum s.data.toList i).2.2 w'/\w.grownBy w' (some b):=by
 obtain ⟨E,V,Q,hEQ⟩:∃E V Q,rdNum s.data.toList i=(E,V,Q):=⟨_,_,_,rfl⟩
 rw [hEQ]
 have hsl:s.data.toList.length=s.size:=by simp
 have CR:Hid (Calls Tryz.prog 156 #[.pointer (some ⟨b,0,none⟩),.func (.func 157) #[] #[]] w fun e w'=>e=.returned (.string ⟨(subT s.data.toList i (runN isD s.data.toList i)).toArray⟩)/\RS b s (i+runN isD s.data.toList i) w'/\w.grownBy w' (some b)):=run_digits b s i w hi h hs
 have d1:=h.c1
 have hle:i+runN isD s.data.toList i<=s.size:=by have:=runN_le isD s.data.toList i (by rw [hsl];exact hi);rw [hsl] at this;exact this
 have hln:=sub_len s.data.toList i (runN isD s.data.toList i) (by rw [hsl];exact hle)
 have hall:=sub_all isD s.data.toList i
 have hT0:∀k,0 < k->i+k<=s.data.toList.length->(subT s.data.toList i k)[0]?=s.data.toList[i]?:=by
  intro k hk hik
  unfold subT
  rw [List.getElem?_take_of_lt hk,List.getElem?_drop];rfl
 unfold rdNum at hEQ
 obtain ⟨k,hk⟩:∃k,runN isD s.data.toList i=k:=⟨_,rfl⟩
 rw [hk] at CR hEQ hle hln hall
 have hT0k:=hT0 k
 obtain ⟨T,hT⟩:∃T,subT s.data.toList i k=T:=⟨_,rfl⟩
 rw [hT] at CR hEQ hln hall hT0k
 obtain ⟨X,hX⟩:∃X:ByteArray,X=⟨T.toArray⟩:=⟨_,rfl⟩
 rw [<-hX] at CR
 have HXd:Hid (X.data.toList=T):=by show X.data.toList=T;rw [hX]
 have hXs:X.size=k:=by rw [hX];show T.toArray.size=k;simpa using hln
 have HEQ:Hid ((if k=0 then (2,0,i) else if 1 < k/\s.data.toList[i]?=some 48 then (2,0,i) else if valN T > 999999999 then (3,0,i) else (0,valN T,i+k))=(E,V,Q)):=hEQ
 have HALL:Hid (T.all isD=true/\T.length=k/\(0 < k->T[0]?=s.data.toList[i]?)):=⟨hall,hln,fun h=>hT0k h (by rw [hsl];exact hle)⟩
 clear hk hT hX hEQ hln hall hT0 hT0k h hsl hi
 by_cases hk0:k=0
 ·have e1:=emp_t2 (hXs.trans hk0)
  have HZ:Hid (E=2/\V=0/\Q=i+k):=by
   have:=HEQ.out
   rw [if_pos hk0] at this
   exact ⟨(congrArg Prod.fst this).symm,(congrArg (·.2.1) this).symm,by rw [hk0];exact (congrArg (·.2.2) this).symm⟩
  clear hk0 hXs hle
  go_enter Tryz.func147,Tryz.ntmps147
  go_wp2_with (go_at_call 156;refine CR.out.mono ?_)
  rintro e w1 ⟨rfl,hr1,hg1⟩
  have HF:Hid (RS b s Q w1/\w.grownBy w1 (some b)):=⟨by rw [HZ.out.2.2];exact hr1,hg1⟩
  clear hr1 hg1
  go_wp2
  refine bodyPost_ret (results_tmp2 rfl _ _ _) rfl ⟨?_,HF.out.1,HF.out.2⟩
  rw [HZ.out.1,HZ.out.2.1];rfl
 ·have e1:=emp_f2 (fun h=>hk0 (hXs.symm.trans h))
  obtain ⟨z,hz⟩:∃z,(decide (1 < X.data.toList.length) && decide (X.data.toList[0]?=some 48))=z:=⟨_,rfl⟩
  have CZ:Hid (∀w,Calls Tryz.prog 158 #[.string X] w fun e w'=>e=.returned (.bool z)/\w'=w):=fun w=>by rw [<-hz];exact needless_any X w
  have HZz:Hid (z=decide (1 < k/\s.data.toList[i]?=some 48)):=by
   show z=_
   rw [<-hz,HXd.out,HALL.out.2.1,HALL.out.2.2 (by omega)]
   rw [Bool.eq_iff_iff];simp
  have HK:Hid (¬ k=0):=hk0
  clear hz hk0
  go_enter Tryz.func147,Tryz.ntmps147
  go_wp2_with (go_at_call 156;refine CR.out.mono ?_)
  rintro e w1 ⟨rfl,hr1,hg1⟩
  have HR1:Hid (RS b s (i+k) w1):=hr1
  have HG1:Hid (w.grownBy w1 (some b)):=hg1
  have f1:=hr1.c1
  have f2:=hr1.f1
  clear hr1 hg1
  cases z with
  | true =>
   have HZ:Hid (E=2/\V=0/\Q=i):=by
    have:=HEQ.out
    rw [if_neg HK.out,if_pos (of_decide_eq_true HZz.out.symm)] at this
    exact ⟨(congrArg Prod.fst this).symm,(congrArg (·.2.1) this).symm,(congrArg (·.2.2) this).symm⟩
   go_wp2_with (first | (go_at_call 158;refine (CZ.out _).mono ?_;rintro e w' ⟨rfl,rfl⟩))
   refine bodyPost_ret (results_tmp2 rfl _ _ _) rfl ⟨?_,by rw [HZ.out.2.2];exact HR1.out.set i,gb_set HG1.out _ _⟩
   rw [HZ.out.1,HZ.out.2.1];rfl
  | false =>
   have HV:Hid ((if valN T > 999999999 then (3,0,i) else (0,valN T,i+k))=(E,V,Q)):=by
    have:=HEQ.out
    rw [if_neg HK.out,if_neg (of_decide_eq_false HZz.out.symm)] at this
    exact this
   have kw:=Lib.run_convert_string_bytes (P:=Tryz.prog) w1 9 53 5 X Tryz.underlying9 Tryz.underlying53 Tryz.underlying5
   obtain ⟨W,hW⟩:∃W,Lib.bytesWorld w1 5 X=W:=⟨_,rfl⟩
   have HC:Hid (∀j,(hj:j < X.size)->W.cell? ⟨w1.heap.size,j,none⟩=some (.int .u8 (X[j].toNat:Int))):=by
    show ∀j,(hj:j < X.size)->W.cell? ⟨w1.heap.size,j,none⟩=some (.int .u8 (X[j].toNat:Int))
    intro j hj
    rw [<-hW,Lib.bytesWorld_cell w1 _ X j hj]
    have:X.data.toList.getD j 0=X[j]:=by
     rw [List.getD_eq_getElem?_getD,get_data X j hj];rfl
    rw [this]
   have hgW:w1.grownBy W none:=by rw [<-hW];exact gb_bytes w1 _ X
   rw [hW] at kw
   have HRW:Hid (RS b s (i+k) W):=HR1.out.grow hgW
   have HGW:Hid (w.grownBy W (some b)):=gb_trans HG1.out (gb_weak hgW _)
   have g1:=HRW.out.c1
   have g2:=HRW.out.f1
   clear hW hgW f1 f2
   go_wp2_with (first | (go_at_call 158;refine (CZ.out _).mono ?_;rintro e w' ⟨rfl,rfl⟩))
   have HXk:Hid (X.size=k):=hXs
   have hks:k < 2 ^ 62:=by omega
   clear hXs hle
   go_loop [6,26] (fun vn vi=>∃m:Nat,m<=k/\vi=.int .i64 m/\vn=.int .i64 (valN (T.take m))/\valN (T.take m)<=999999999) (fun _ vi=>k - (intOf vi).toNat)
   case atStart=>exact ⟨0,Nat.zero_le _,rfl,rfl,by show (0:Int)<=_;omega⟩
   case round =>
    obtain ⟨m,hm,rfl,rfl,hvm⟩:=hrel
    by_cases hlt:m < k
    ·have hmT:m < T.length:=by rw [HALL.out.2.1];exact hlt
     have hmX:m < X.size:=by rw [HXk.out];exact hlt
     have hXT:X[m]=T[m]:=by
      have:=get_data X m hmX
      rw [HXd.out,List.getElem?_eq_getElem hmT] at this
      exact (Option.some.inj this).symm
     have cm:=HC.out m hmX
     have hdg:=isD_ge (List.all_eq_true.1 HALL.out.1 T[m] (List.getElem_mem hmT))
     have hvt:=val_take T m hmT
     have hv0:0<=valN (T.take m):=val_nn _ (List.all_eq_true.2 (fun c hc=>List.all_eq_true.1 HALL.out.1 c (List.mem_of_mem_take hc)))
     have hpre:valN (T.take (m+1))<=valN T:=by
      have:=val_prefix (T.take (m+1)) (T.drop (m+1)) (by rw [List.take_append_drop];exact HALL.out.1)
      rw [List.take_append_drop] at this;exact this
     rw [hXT] at cm
     obtain ⟨c,hc⟩:∃c:Int,c=(T[m].toNat:Int):=⟨_,rfl⟩
     rw [<-hc] at cm hvt
     obtain ⟨v,hv⟩:∃v,v=valN (T.take m):=⟨_,rfl⟩
     rw [<-hv] at hvt hv0 hvm
     rw [<-hv]
     have hc0:48<=c/\c<=57:=by omega
     have r1:IntKind.i64.wrap (10 * v)=10 * v:=by rw [IntKind.wrap_i64];omega
     have r2:IntKind.u8.wrap (c - 48)=c - 48:=by rw [IntKind.wrap_u8];omega
     have r3:IntKind.i64.wrap (c - 48)=c - 48:=by rw [IntKind.wrap_i64];omega
     have r4:IntKind.i64.wrap (10 * v+(c - 48))=10 * v+(c - 48):=by rw [IntKind.wrap_i64];omega
     have HVT:Hid (valN (T.take (m+1))=10 * v+(c - 48)/\valN (T.take (m+1))<=valN T):=⟨hvt,hpre⟩
     clear hc hv hXT hdg hvt hpre hmT hmX
     by_cases hbig:999999999 < 10 * v+(c - 48)
     ·have HZ:Hid (E=3/\V=0/\Q=i):=by
       have h1:=HVT.out
       have:=HV.out
       rw [if_pos (by omega)] at this
       exact ⟨(congrArg Prod.fst this).symm,(congrArg (·.2.1) this).symm,(congrArg (·.2.2) this).symm⟩
      go_wp2
      refine bodyPost_ret (results_tmp2 rfl _ _ _) rfl ⟨?_,by rw [HZ.out.2.2];exact HRW.out.set i,gb_set HGW.out _ _⟩
      rw [HZ.out.1,HZ.out.2.1];rfl
     ·go_wp2
      go_round
      case rel=>exact ⟨m+1,by omega,by go_num,by rw [HVT.out.1],by rw [HVT.out.1];omega⟩
      case measure=>simp [intOf];omega
    ·have hmk:m=k:=by omega
     have HTk:Hid (T.take m=T):=by show T.take m=T;rw [hmk];exact List.take_of_length_le (by rw [HALL.out.2.1];exact Nat.le_refl _)
     have HZ:Hid (E=0/\V=valN (T.take m)/\Q=i+k):=by
      have:=HV.out
      rw [HTk.out] at hvm ⊢
      rw [if_neg (by omega)] at this
      exact ⟨(congrArg Prod.fst this).symm,(congrArg (·.2.1) this).symm,(congrArg (·.2.2) this).symm⟩
     clear hmk hm hvm
     go_wp2
     refine bodyPost_ret (results_tmp2 rfl _ _ _) rfl ⟨?_,by rw [HZ.out.2.2];exact HRW.out,HGW.out⟩
     rw [HZ.out.1,HZ.out.2.1];rfl
open Go.RowKit
set_option linter.unusedVariables false
structure G2 (b v:Nat) (w w':World):Prop where
 os:w'.os=w.os
 tape:w'.tape=w.tape
 output:w'.output=w.output
 size:w.heap.size<=w'.heap.size
 block:∀k,k < w.heap.size->k ≠ b->k ≠ v->w'.heap[k]?=w.heap[k]?
theorem G2.refl (b v:Nat) (w:World):G2 b v w w:=⟨rfl,rfl,rfl,Nat.le_refl _,fun _ _ _ _=>rfl⟩
theorem G2.step {b v:Nat} {w w1 w2:World} (h:G2 b v w w1) (hg:w1.grownBy w2 (some b)):G2 b v w w2 :=
 ⟨hg.os.trans h.os,hg.tape.trans h.tape,hg.output.trans h.output,Nat.le_trans h.size hg.size,fun k hk h1 h2=>(hg.block k (Nat.lt_of_lt_of_le hk h.size) (by simpa using h1)).trans (h.block k hk h1 h2)⟩
theorem G2.drew {b v:Nat} {w w1:World} (h:G2 b v w w1) (n:Nat):G2 b v w (w1.drewN n):=⟨h.os,h.tape,h.output,h.size,h.block⟩
theorem G2.set {b v:Nat} {w w1:World} (h:G2 b v w w1) (o:Nat) (x:Value):G2 b v w (w1.setCell ⟨v,o,none⟩ x) :=
 ⟨h.os,h.tape,h.output,by simpa [World.setCell] using h.size,fun k hk h1 h2=>by rw [<-h.block k hk h1 h2];exact heap_setCell_other w1 _ k x (fun e=>h2 e)⟩
def VB (v:Nat) (x1 x2 x3:Int) (w:World):Prop:=w.heap[v]?=some (.cells #[.int .i64 x1,.int .i64 x2,.int .i64 x3,.string ⟨#[]⟩,.string ⟨#[]⟩] 105 (0,0))
theorem VB.cell {v:Nat} {x1 x2 x3:Int} {w:World} (h:VB v x1 x2 x3 w):w.cell? ⟨v,0,none⟩=some (.int .i64 x1)/\w.cell? ⟨v,1,none⟩=some (.int .i64 x2)/\w.cell? ⟨v,2,none⟩=some (.int .i64 x3) :=
 ⟨by rw [Lib.cell_of_heap h];rfl,by rw [Lib.cell_of_heap h];rfl,by rw [Lib.cell_of_heap h];rfl⟩
theorem VB.f {v:Nat} {x1 x2 x3:Int} {w:World} (h:VB v x1 x2 x3 w) (o:Nat):w.frozen? ⟨v,o,none⟩=false:=Lib.frozen_of_heap h o
theorem VB.grow {b v:Nat} {x1 x2 x3:Int} {w w':World} (h:VB v x1 x2 x3 w) (hg:w.grownBy w' (some b)) (hn:v ≠ b):VB v x1 x2 x3 w':=by
 unfold VB at h ⊢
 rw [hg.block v ((Array.getElem?_eq_some_iff.1 h).1) (by simpa using hn)];exact h
theorem VB.drew {v:Nat} {x1 x2 x3:Int} {w:World} (h:VB v x1 x2 x3 w) (n:Nat):VB v x1 x2 x3 (w.drewN n):=h
theorem VB.set0 {v:Nat} {x1 x2 x3:Int} {w:World} (h:VB v x1 x2 x3 w) (y:Int):VB v y x2 x3 (w.setCell ⟨v,0,none⟩ (.int .i64 y)):=by
 unfold VB at h ⊢;simp [World.setCell,Array.getElem?_modify,h]
theorem VB.set1 {v:Nat} {x1 x2 x3:Int} {w:World} (h:VB v x1 x2 x3 w) (y:Int):VB v x1 y x3 (w.setCell ⟨v,1,none⟩ (.int .i64 y)):=by
 unfold VB at h ⊢;simp [World.setCell,Array.getElem?_modify,h]
theorem VB.set2 {v:Nat} {x1 x2 x3:Int} {w:World} (h:VB v x1 x2 x3 w) (y:Int):VB v x1 x2 y (w.setCell ⟨v,2,none⟩ (.int .i64 y)):=by
 unfold VB at h ⊢;simp [World.setCell,Array.getElem?_modify,h]
theorem RS.other {b v:Nat} {s:ByteArray} {i:Nat} {w:World} (h:RS b s i w) (hn:b ≠ v) (o:Nat) (x:Value):RS b s i (w.setCell ⟨v,o,none⟩ x):=by
 obtain ⟨t,h⟩:=h
 exact ⟨t,by rw [<-h];exact heap_setCell_other w _ b x hn⟩
def rest3 (l:List UInt8) (j:Nat) (x1 x2 x3:Int):Int × Nat × Int × Int × Int:=(0,j,x1,x2,x3)
def rest2 (l:List UInt8) (j:Nat) (x1 x2:Int):Int × Nat × Int × Int × Int :=
 if l[j]?=some 46 then (if (rdNum l (j+1)).1=0 then rest3 l (rdNum l (j+1)).2.2 x1 x2 (rdNum l (j+1)).2.1 else ((rdNum l (j+1)).1,(rdNum l (j+1)).2.2,0,0,0)) else (2,j,0,0,0)
def rest1 (l:List UInt8) (j:Nat) (x1:Int):Int × Nat × Int × Int × Int :=
 if l[j]?=some 46 then (if (rdNum l (j+1)).1=0 then rest2 l (rdNum l (j+1)).2.2 x1 (rdNum l (j+1)).2.1 else ((rdNum l (j+1)).1,(rdNum l (j+1)).2.2,0,0,0)) else (2,j,0,0,0)
theorem nums_rest (l:List UInt8):rdNums l=if (rdNum l 0).1=0 then rest1 l (rdNum l 0).2.2 (rdNum l 0).2.1 else ((rdNum l 0).1,(rdNum l 0).2.2,0,0,0):=rfl
theorem num_le (l:List UInt8) (i:Nat) (hi:i<=l.length):(rdNum l i).2.2<=l.length:=by
 have:=runN_le isD l i hi
 unfold rdNum
 repeat' split
 all_goals first | exact hi | (simp only;omega)
theorem ip0 (v:Nat) (w:World):(Instr.index 183 (.agg #[.pointer (some ⟨v,0,none⟩),.pointer (some ⟨v,1,none⟩),.pointer (some ⟨v,2,none⟩)]) (.int .i64 0)).run Tryz.prog w=.ok (.pointer (some ⟨v,0,none⟩)) w:=by kernel_rfl
theorem ip1 (v:Nat) (w:World):(Instr.index 183 (.agg #[.pointer (some ⟨v,0,none⟩),.pointer (some ⟨v,1,none⟩),.pointer (some ⟨v,2,none⟩)]) (.int .i64 1)).run Tryz.prog w=.ok (.pointer (some ⟨v,1,none⟩)) w:=by kernel_rfl
theorem ip2 (v:Nat) (w:World):(Instr.index 183 (.agg #[.pointer (some ⟨v,0,none⟩),.pointer (some ⟨v,1,none⟩),.pointer (some ⟨v,2,none⟩)]) (.int .i64 2)).run Tryz.prog w=.ok (.pointer (some ⟨v,2,none⟩)) w:=by kernel_rfl
set_option maxRecDepth 100000 in
set_option maxHeartbeats 3200000 in
theorem numbers_any (b v:Nat) (s:ByteArray) (w:World) (h:RS b s 0 w) (hv:VB v 0 0 0 w) (hbv:b ≠ v) (hs:s.size < 2 ^ 62) :
  Calls Tryz.prog 126 #[.pointer (some ⟨b,0,none⟩),.pointer (some ⟨v,0,none⟩)] w fun e w'=>e=.returned (.int .i64 (rdNums s.data.toList).1)/\RS b s (rdNums s.data.toList).2.1 w'/\(∃y1 y2 y3,VB v y1 y2 y3 w'/\((rdNums s.data.toList).1=0->(y1,y2,y3)=(rdNums s.data.toList).2.2))/\G2 b v w w':=by
 obtain ⟨l,hl⟩:∃l,l=s.data.toList:=⟨_,rfl⟩
 have hll:l.length=s.size:=by rw [hl];simp
 have HLL:Hid (l.length=s.size):=hll
 obtain ⟨R,hR⟩:∃R,rdNums l=R:=⟨_,rfl⟩
 rw [<-hl,hR]
 have HNR:=nums_rest l
 rw [hR] at HNR
 have HR:Hid (R=if (rdNum l 0).1=0 then rest1 l (rdNum l 0).2.2 (rdNum l 0).2.1 else ((rdNum l 0).1,(rdNum l 0).2.2,0,0,0)):=HNR
 have CN:Hid (∀i w,i<=s.size->RS b s i w->Calls Tryz.prog 147 #[.pointer (some ⟨b,0,none⟩)] w fun e w'=>e=.returned (.tuple #[.int .i64 (rdNum l i).2.1,.int .i64 (rdNum l i).1])/\RS b s (rdNum l i).2.2 w'/\w.grownBy w' (some b)):=fun i w hi h=>by rw [hl];exact num_any b s i w hi h hs
 have TY:Hid (∀i w,l[i]?=some 46->RS b s i w->Calls Tryz.prog 146 #[.pointer (some ⟨b,0,none⟩),.string ⟨#[46]⟩] w fun e w'=>e=.returned (.bool true)/\RS b s (i+1) w'/\w.grownBy w' (some b)):=fun i w hc h=>take_yes b s i 46 w (by rw [<-hl];exact hc) h hs
 have TN:Hid (∀i w,i<=s.size->¬ l[i]?=some 46->RS b s i w->Calls Tryz.prog 146 #[.pointer (some ⟨b,0,none⟩),.string ⟨#[46]⟩] w fun e w'=>e=.returned (.bool false)/\RS b s i w'/\w.grownBy w' (some b)):=fun i w hi hc h=>take_no b s i 46 w hi (by rw [<-hl];exact hc) h hs
 have HI:Hid (RS b s 0 w/\VB v 0 0 0 w):=⟨h,hv⟩
 have HBV:Hid (b ≠ v):=hbv
 have HNL:Hid (∀i,i<=s.size->(rdNum l i).2.2<=s.size):=fun i hi=>by have:=num_le l i (by rw [hll];exact hi);rw [hll] at this;exact this
 clear hl hll hR HNR h hv hbv hs
 go_enter Tryz.func126,Tryz.ntmps126
 go_wp2
 go_quiet (fail)
 go_wp2
 go_loopw [18] (fun vi wr=>∃(k j:Nat) (x1 x2 x3:Int),vi=.int .i64 k/\j<=s.size/\RS b s j wr/\VB v x1 x2 x3 wr/\G2 b v w wr/\((k=0/\j=0/\x2=0/\x3=0)\/(k=1/\R=rest1 l j x1/\x3=0)\/(k=2/\R=rest2 l j x1 x2)\/(k=3/\R=rest3 l j x1 x2 x3))) (fun vi _=>3 - (intOf vi).toNat)
 case atStart=>exact ⟨0,0,0,0,0,rfl,Nat.zero_le _,HI.out.1.drew _,HI.out.2.drew _,(G2.refl b v w).drew _,Or.inl ⟨rfl,rfl,rfl,rfl⟩⟩
 case round =>
  obtain ⟨k,j,x1,x2,x3,rfl,hj,hrs,hvb,hg2,hcase⟩:=hrel
  have HJ:Hid (j<=s.size):=hj
  have HRS:Hid (RS b s j wr):=hrs
  have HVB:Hid (VB v x1 x2 x3 wr):=hvb
  have HG:Hid (G2 b v w wr):=hg2
  clear hj hrs hvb hg2
  rcases hcase with ⟨rfl,rfl,hx2,hx3⟩ | ⟨rfl,hrk,hx3⟩ | ⟨rfl,hrk⟩ | ⟨rfl,hrk⟩
  ·have ix:=ip0 v wr
   have HX3:Hid (x3=0):=hx3
   have HRk:Hid (R=if (rdNum l 0).1=0 then rest1 l (rdNum l 0).2.2 (rdNum l 0).2.1 else ((rdNum l 0).1,(rdNum l 0).2.2,0,0,0)):=HR.out
   have HJn:Hid (0<=s.size):=HJ.out
   have HRSn:Hid (RS b s 0 wr):=HRS.out
   have HVn:Hid (VB v x1 x2 x3 wr):=HVB.out
   have HGn:Hid (G2 b v w wr):=HG.out
   clear hx2 hx3 HR
   have CNJ:Hid (Calls Tryz.prog 147 #[.pointer (some ⟨b,0,none⟩)] wr fun e w'=>e=.returned (.tuple #[.int .i64 (rdNum l (0)).2.1,.int .i64 (rdNum l (0)).1])/\RS b s (rdNum l (0)).2.2 w'/\wr.grownBy w' (some b)):=CN.out (0) wr HJn.out HRSn.out
   have HLq:Hid ((rdNum l (0)).2.2<=s.size):=HNL.out (0) HJn.out
   obtain ⟨E,hE⟩:∃E,(rdNum l (0)).1=E:=⟨_,rfl⟩
   obtain ⟨V,hV⟩:∃V,(rdNum l (0)).2.1=V:=⟨_,rfl⟩
   obtain ⟨Q,hQ⟩:∃Q,(rdNum l (0)).2.2=Q:=⟨_,rfl⟩
   rw [hE,hV,hQ] at CNJ
   rw [hQ] at HLq
   rw [hE,hV,hQ] at HRk
   clear hE hV hQ
   go_wp2_with (go_at_call 147;refine CNJ.out.mono ?_)
   rintro e wq ⟨rfl,hrq,hgq⟩
   have HVq:Hid (VB v x1 x2 x3 wq):=HVn.out.grow hgq (Ne.symm HBV.out)
   have HGq:Hid (G2 b v w wq):=HGn.out.step hgq
   have HRq:Hid (RS b s Q wq):=hrq
   clear hrq hgq
   have cc:=HVq.out.cell.1
   have ff:=HVq.out.f 0
   cases hz:(E == 0) with
   | false =>
    have HZ:Hid (R=(E,Q,0,0,0)):=by show R=_;rw [HRk.out,if_neg (by simpa using hz)]
    go_wp2
    go_ret
    refine ⟨ret_int (by rw [HZ.out]),by rw [HZ.out];exact HRq.out.other HBV.out _ _,⟨_,_,_,HVq.out.set0 _,fun hh=>?_⟩,HGq.out.set _ _⟩
    rw [HZ.out] at hh
    exact absurd hh (by simpa using hz)
   | true =>
    have HZ:Hid (R=rest1 l Q V):=by show R=_;rw [HRk.out,if_pos (by simpa using hz)]
    go_wp2
    go_roundw
    case rel=>exact ⟨1,Q,V,x2,x3,rfl,HLq.out,HRq.out.other HBV.out _ _,HVq.out.set0 _,HGq.out.set _ _,Or.inr (Or.inl ⟨rfl,HZ.out,HX3.out⟩)⟩
    case measure=>simp [intOf]
  ·have ix:=ip1 v wr
   have HX3:Hid (x3=0):=hx3
   have HRr:Hid (R=rest1 l j x1):=hrk
   clear hrk hx3
   cases hc:decide (l[j]?=some 46) with
   | false =>
    have hc':=of_decide_eq_false hc
    have HZ:Hid (R=(2,j,0,0,0)):=by show R=_;rw [HRr.out];unfold rest1;rw [if_neg hc']
    have CT:Hid (Calls Tryz.prog 146 #[.pointer (some ⟨b,0,none⟩),.string ⟨#[46]⟩] wr fun e w'=>e=.returned (.bool false)/\RS b s j w'/\wr.grownBy w' (some b)):=TN.out j wr HJ.out hc' HRS.out
    clear hc hc'
    go_wp2_with (go_at_call 146;refine CT.out.mono ?_)
    rintro e wt ⟨rfl,hrt,hgt⟩
    have HF:Hid (RS b s j wt/\G2 b v w wt):=⟨hrt,HG.out.step hgt⟩
    have HVt:Hid (VB v x1 x2 x3 wt):=HVB.out.grow hgt (Ne.symm HBV.out)
    clear hrt hgt
    go_wp2
    go_ret
    refine ⟨ret_int (by rw [HZ.out]),by rw [HZ.out];exact HF.out.1,⟨_,_,_,HVt.out,fun hh=>?_⟩,HF.out.2⟩
    rw [HZ.out] at hh
    exact absurd hh (by show ¬ (2:Int)=0;decide)
   | true =>
    have hc':=of_decide_eq_true hc
    have HRk:Hid (R=if (rdNum l (j+1)).1=0 then rest2 l (rdNum l (j+1)).2.2 x1 (rdNum l (j+1)).2.1 else ((rdNum l (j+1)).1,(rdNum l (j+1)).2.2,0,0,0)):=by show R=_;rw [HRr.out];unfold rest1;rw [if_pos hc']
    have CT:Hid (Calls Tryz.prog 146 #[.pointer (some ⟨b,0,none⟩),.string ⟨#[46]⟩] wr fun e w'=>e=.returned (.bool true)/\RS b s (j+1) w'/\wr.grownBy w' (some b)):=TY.out j wr hc' HRS.out
    have HJn:Hid (j+1<=s.size):=by have:=(List.getElem?_eq_some_iff.1 hc').1;rw [HLL.out] at this;exact this
    clear hc hc'
    go_wp2_with (go_at_call 146;refine CT.out.mono ?_)
    rintro e wt ⟨rfl,hrt,hgt⟩
    have HRSn:Hid (RS b s (j+1) wt):=hrt
    have HVn:Hid (VB v x1 x2 x3 wt):=HVB.out.grow hgt (Ne.symm HBV.out)
    have HGn:Hid (G2 b v w wt):=HG.out.step hgt
    clear hrt hgt
    have CNJ:Hid (Calls Tryz.prog 147 #[.pointer (some ⟨b,0,none⟩)] wt fun e w'=>e=.returned (.tuple #[.int .i64 (rdNum l (j+1)).2.1,.int .i64 (rdNum l (j+1)).1])/\RS b s (rdNum l (j+1)).2.2 w'/\wt.grownBy w' (some b)):=CN.out (j+1) wt HJn.out HRSn.out
    have HLq:Hid ((rdNum l (j+1)).2.2<=s.size):=HNL.out (j+1) HJn.out
    obtain ⟨E,hE⟩:∃E,(rdNum l (j+1)).1=E:=⟨_,rfl⟩
    obtain ⟨V,hV⟩:∃V,(rdNum l (j+1)).2.1=V:=⟨_,rfl⟩
    obtain ⟨Q,hQ⟩:∃Q,(rdNum l (j+1)).2.2=Q:=⟨_,rfl⟩
    rw [hE,hV,hQ] at CNJ
    rw [hQ] at HLq
    rw [hE,hV,hQ] at HRk
    clear hE hV hQ
    go_wp2_with (go_at_call 147;refine CNJ.out.mono ?_)
    rintro e wq ⟨rfl,hrq,hgq⟩
    have HVq:Hid (VB v x1 x2 x3 wq):=HVn.out.grow hgq (Ne.symm HBV.out)
    have HGq:Hid (G2 b v w wq):=HGn.out.step hgq
    have HRq:Hid (RS b s Q wq):=hrq
    clear hrq hgq
    have cc:=HVq.out.cell.2.1
    have ff:=HVq.out.f 1
    cases hz:(E == 0) with
    | false =>
     have HZ:Hid (R=(E,Q,0,0,0)):=by show R=_;rw [HRk.out,if_neg (by simpa using hz)]
     go_wp2
     go_ret
     refine ⟨ret_int (by rw [HZ.out]),by rw [HZ.out];exact HRq.out.other HBV.out _ _,⟨_,_,_,HVq.out.set1 _,fun hh=>?_⟩,HGq.out.set _ _⟩
     rw [HZ.out] at hh
     exact absurd hh (by simpa using hz)
    | true =>
     have HZ:Hid (R=rest2 l Q x1 V):=by show R=_;rw [HRk.out,if_pos (by simpa using hz)]
     go_wp2
     go_roundw
     case rel=>exact ⟨2,Q,x1,V,x3,rfl,HLq.out,HRq.out.other HBV.out _ _,HVq.out.set1 _,HGq.out.set _ _,Or.inr (Or.inr (Or.inl ⟨rfl,HZ.out⟩))⟩
     case measure=>simp [intOf]
  ·have ix:=ip2 v wr
   have HRr:Hid (R=rest2 l j x1 x2):=hrk
   clear hrk
   cases hc:decide (l[j]?=some 46) with
   | false =>
    have hc':=of_decide_eq_false hc
    have HZ:Hid (R=(2,j,0,0,0)):=by show R=_;rw [HRr.out];unfold rest2;rw [if_neg hc']
    have CT:Hid (Calls Tryz.prog 146 #[.pointer (some ⟨b,0,none⟩),.string ⟨#[46]⟩] wr fun e w'=>e=.returned (.bool false)/\RS b s j w'/\wr.grownBy w' (some b)):=TN.out j wr HJ.out hc' HRS.out
    clear hc hc'
    go_wp2_with (go_at_call 146;refine CT.out.mono ?_)
    rintro e wt ⟨rfl,hrt,hgt⟩
    have HF:Hid (RS b s j wt/\G2 b v w wt):=⟨hrt,HG.out.step hgt⟩
    have HVt:Hid (VB v x1 x2 x3 wt):=HVB.out.grow hgt (Ne.symm HBV.out)
    clear hrt hgt
    go_wp2
    go_ret
    refine ⟨ret_int (by rw [HZ.out]),by rw [HZ.out];exact HF.out.1,⟨_,_,_,HVt.out,fun hh=>?_⟩,HF.out.2⟩
    rw [HZ.out] at hh
    exact absurd hh (by show ¬ (2:Int)=0;decide)
   | true =>
    have hc':=of_decide_eq_true hc
    have HRk:Hid (R=if (rdNum l (j+1)).1=0 then rest3 l (rdNum l (j+1)).2.2 x1 x2 (rdNum l (j+1)).2.1 else ((rdNum l (j+1)).1,(rdNum l (j+1)).2.2,0,0,0)):=by show R=_;rw [HRr.out];unfold rest2;rw [if_pos hc']
    have CT:Hid (Calls Tryz.prog 146 #[.pointer (some ⟨b,0,none⟩),.string ⟨#[46]⟩] wr fun e w'=>e=.returned (.bool true)/\RS b s (j+1) w'/\wr.grownBy w' (some b)):=TY.out j wr hc' HRS.out
    have HJn:Hid (j+1<=s.size):=by have:=(List.getElem?_eq_some_iff.1 hc').1;rw [HLL.out] at this;exact this
    clear hc hc'
    go_wp2_with (go_at_call 146;refine CT.out.mono ?_)
    rintro e wt ⟨rfl,hrt,hgt⟩
    have HRSn:Hid (RS b s (j+1) wt):=hrt
    have HVn:Hid (VB v x1 x2 x3 wt):=HVB.out.grow hgt (Ne.symm HBV.out)
    have HGn:Hid (G2 b v w wt):=HG.out.step hgt
    clear hrt hgt
    have CNJ:Hid (Calls Tryz.prog 147 #[.pointer (some ⟨b,0,none⟩)] wt fun e w'=>e=.returned (.tuple #[.int .i64 (rdNum l (j+1)).2.1,.int .i64 (rdNum l (j+1)).1])/\RS b s (rdNum l (j+1)).2.2 w'/\wt.grownBy w' (some b)):=CN.out (j+1) wt HJn.out HRSn.out
    have HLq:Hid ((rdNum l (j+1)).2.2<=s.size):=HNL.out (j+1) HJn.out
    obtain ⟨E,hE⟩:∃E,(rdNum l (j+1)).1=E:=⟨_,rfl⟩
    obtain ⟨V,hV⟩:∃V,(rdNum l (j+1)).2.1=V:=⟨_,rfl⟩
    obtain ⟨Q,hQ⟩:∃Q,(rdNum l (j+1)).2.2=Q:=⟨_,rfl⟩
    rw [hE,hV,hQ] at CNJ
    rw [hQ] at HLq
    rw [hE,hV,hQ] at HRk
    clear hE hV hQ
    go_wp2_with (go_at_call 147;refine CNJ.out.mono ?_)
    rintro e wq ⟨rfl,hrq,hgq⟩
    have HVq:Hid (VB v x1 x2 x3 wq):=HVn.out.grow hgq (Ne.symm HBV.out)
    have HGq:Hid (G2 b v w wq):=HGn.out.step hgq
    have HRq:Hid (RS b s Q wq):=hrq
    clear hrq hgq
    have cc:=HVq.out.cell.2.2
    have ff:=HVq.out.f 2
    cases hz:(E == 0) with
    | false =>
     have HZ:Hid (R=(E,Q,0,0,0)):=by show R=_;rw [HRk.out,if_neg (by simpa using hz)]
     go_wp2
     go_ret
     refine ⟨ret_int (by rw [HZ.out]),by rw [HZ.out];exact HRq.out.other HBV.out _ _,⟨_,_,_,HVq.out.set2 _,fun hh=>?_⟩,HGq.out.set _ _⟩
     rw [HZ.out] at hh
     exact absurd hh (by simpa using hz)
    | true =>
     have HZ:Hid (R=rest3 l Q x1 x2 V):=by show R=_;rw [HRk.out,if_pos (by simpa using hz)]
     go_wp2
     go_roundw
     case rel=>exact ⟨3,Q,x1,x2,V,rfl,HLq.out,HRq.out.other HBV.out _ _,HVq.out.set2 _,HGq.out.set _ _,Or.inr (Or.inr (Or.inr ⟨rfl,HZ.out⟩))⟩
     case measure=>simp [intOf]
  ·have HZ:Hid (R=(0,j,x1,x2,x3)):=hrk
   clear hrk
   go_wp2
   go_ret
   refine ⟨ret_int (by rw [HZ.out]),by rw [HZ.out];exact HRS.out,⟨_,_,_,HVB.out,fun _=>by rw [HZ.out]⟩,HG.out⟩
end Go.Proofs.YtbbmbnpebiakbaaGreatDoor
