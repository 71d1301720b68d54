import Derived.Test.YtpeghomkaphdcaaGreatDoorM03
import Derived.Test.YtpeghomkaphdcaaGreatDoorM02
namespace Go.Proofs.YtpeghomkaphdcaaGreatDoor
open Go.RowKit
set_option linter.unusedVariables false
def placeOf (b:Nat) (w:World):Nat:=match w.cell? ⟨b,1,none⟩ with | some (.int .i64 x)=>x.toNat | _=>0
theorem RS.place {b:Nat} {s:ByteArray} {i:Nat} {w:World} (h:RS b s i w):placeOf b w=i:=by unfold placeOf;rw [h.c1];simp
set_option maxHeartbeats 800000 in
theorem run_digits (b:Nat) (s:ByteArray) (i:Nat) (w:World) (hi:i<=s.size) (h:RS b s i w) (hs:s.size < 2 ^ 62) :
  Calls Tryz.prog 156 #[.pointer (some ⟨b,0,none⟩),.func (.func 157) #[] #[]] w fun e w'=>e=.returned (.string ⟨(subT s.data.toList i (runN isD s.data.toList i)).toArray⟩)/\RS b s (i+runN isD s.data.toList i) w'/\w.grownBy w' (some b):=by
 have h0:=h.c0
 have h1:=h.c1
 have HR:Hid (RS b s i w):=h
 obtain ⟨N,hN⟩:∃N,i+runN isD s.data.toList i=N:=⟨_,rfl⟩
 have HN:Hid (N<=s.size):=by
  show N<=s.size
  have:=runN_le isD s.data.toList i (by simpa using hi)
  simp at this;omega
 have HA:Hid (∀j,i<=j->(hj:j < s.size)->j < N->isD s[j]=true):=by
  show ∀j,i<=j->(hj:j < s.size)->j < N->isD s[j]=true
  intro j h1 hj h2
  obtain ⟨g1,g2⟩:=runN_at isD s.data.toList i (j - i) (by omega)
  have e:i+(j - i)=j:=by omega
  simp only [e] at g2
  exact g2
 have HS:Hid (∀hj:N < s.size,isD s[N]=false):=by
  show ∀hj:N < s.size,isD s[N]=false
  intro hj
  have:=runN_stop isD s.data.toList i (by rw [hN];simpa using hj)
  simp only [hN] at this
  exact this
 have HT:Hid (runN isD s.data.toList i=N - i/\i<=N):=⟨by omega,by omega⟩
 have HI:Hid (i<=s.size):=hi
 rw [show runN isD s.data.toList i=N - i by omega]
 obtain ⟨X,hX⟩:∃X:List UInt8,X=subT s.data.toList i (N - i):=⟨_,rfl⟩
 have hsl:∀wx,(Instr.slice 9 (.string s) (some (.int .i64 (i:Int))) (some (.int .i64 (N:Int))) none).run Tryz.prog wx=.ok (.string ⟨X.toArray⟩) wx:=fun wx=>by rw [hX];exact run_sub s i N (by omega) HN.out wx
 rw [<-hX,show i+(N - i)=N by omega]
 clear h hN hi hX
 go_enter Tryz.func156,Tryz.ntmps156
 go_wp2
 go_loopw [] (fun wr=>∃j:Nat,i<=j/\j<=N/\RS b s j wr/\w.grownBy wr (some b)) (fun wr=>s.size - placeOf b wr)
 case atStart=>exact ⟨i,Nat.le_refl _,HT.out.2,HR.out,gb_refl _ _⟩
 case round =>
  obtain ⟨j,hij,hjn,hrs,hgb⟩:=hrel
  have d0:=hrs.c0
  have d1:=hrs.c1
  have df:=hrs.f1
  have HRS:Hid (RS b s j wr):=hrs
  have HGB:Hid (w.grownBy wr (some b)):=hgb
  have hns:=HN.out
  clear hrs hgb h0 h1
  by_cases hlt:j < N
  ·have hjs:j < s.size:=by omega
   have hD:isD s[j]=true:=HA.out j hij hjs hlt
   have HK:Hid (i<=j/\j < N):=⟨hij,hlt⟩
   clear hlt hjn hns hij
   have hlt2:(j:Int) < (s.size:Int):=by omega
   go_wp2
   go_quiet (first | (go_at_call 157;exact Calls.quiet_of_same (isDigit_any _ _)))
   go_wp2
   go_roundw
   case rel =>
    have:=HK.out
    exact ⟨j+1,by omega,by omega,(HRS.out.drew _).set (j+1),gb_set (gb_drew HGB.out _) _ _⟩
   case measure =>
    have e1:=HRS.out.place
    have e2:=((HRS.out.drew nq).set (j+1)).place
    rw [e1]
    exact Nat.lt_of_le_of_lt (Nat.le_of_eq (congrArg (s.size - ·) e2)) (by omega)
  ·have hjN:j=N:=by omega
   subst hjN
   by_cases hjs:j < s.size
   ·have hD:isD s[j]=false:=HS.out hjs
    have hlt2:(j:Int) < (s.size:Int):=by omega
    clear hlt hjn hns hij
    go_wp2
    go_quiet (first | (go_at_call 157;exact Calls.quiet_of_same (isDigit_any _ _)))
    go_wp2
    obtain ⟨W,hW⟩:∃W,wr.drewN nq=W:=⟨_,rfl⟩
    have e0:W.cell? ⟨b,0,none⟩=some (.string s):=by rw [<-hW];exact d0
    have e1:W.cell? ⟨b,1,none⟩=some (.int .i64 (j:Int)):=by rw [<-hW];exact d1
    have HW:Hid (RS b s j W/\w.grownBy W (some b)):=by
     show RS b s j W/\w.grownBy W (some b)
     rw [<-hW];exact ⟨HRS.out.drew _,gb_drew HGB.out _⟩
    rw [hW]
    clear hW d0 d1 df HRS HGB
    go_quiet (fail)
    go_wp2
    go_ret
    exact ⟨rfl,HW.out.1.drew _,gb_drew HW.out.2 _⟩
   ·have hd2:decide ((j:Int) < (s.size:Int))=false:=by simp;omega
    clear hlt hjn hns hij
    go_wp2
    go_quiet (fail)
    go_wp2
    obtain ⟨W,hW⟩:∃W,wr.drewN nq=W:=⟨_,rfl⟩
    have e0:W.cell? ⟨b,0,none⟩=some (.string s):=by rw [<-hW];exact d0
    have e1:W.cell? ⟨b,1,none⟩=some (.int .i64 (j:Int)):=by rw [<-hW];exact d1
    have HW:Hid (RS b s j W/\w.grownBy W (some b)):=by
     show RS b s j W/\w.grownBy W (some b)
     rw [<-hW];exact ⟨HRS.out.drew _,gb_drew HGB.out _⟩
    rw [hW]
    clear hW d0 d1 df HRS HGB
    go_quiet (fail)
    go_wp2
    go_ret
    exact ⟨rfl,HW.out.1.drew _,gb_drew HW.out.2 _⟩
set_option maxHeartbeats 800000 in
theorem run_parts (b:Nat) (s:ByteArray) (i:Nat) (w:World) (hi:i<=s.size) (h:RS b s i w) (hs:s.size < 2 ^ 62) :
  Calls Tryz.prog 156 #[.pointer (some ⟨b,0,none⟩),.func (.func 167) #[] #[]] w fun e w'=>e=.returned (.string ⟨(subT s.data.toList i (runN isP s.data.toList i)).toArray⟩)/\RS b s (i+runN isP s.data.toList i) w'/\w.grownBy w' (some b):=by
 have h0:=h.c0
 have h1:=h.c1
 have HR:Hid (RS b s i w):=h
 obtain ⟨N,hN⟩:∃N,i+runN isP s.data.toList i=N:=⟨_,rfl⟩
 have HN:Hid (N<=s.size):=by
  show N<=s.size
  have:=runN_le isP s.data.toList i (by simpa using hi)
  simp at this;omega
 have HA:Hid (∀j,i<=j->(hj:j < s.size)->j < N->isP s[j]=true):=by
  show ∀j,i<=j->(hj:j < s.size)->j < N->isP s[j]=true
  intro j h1 hj h2
  obtain ⟨g1,g2⟩:=runN_at isP s.data.toList i (j - i) (by omega)
  have e:i+(j - i)=j:=by omega
  simp only [e] at g2
  exact g2
 have HS:Hid (∀hj:N < s.size,isP s[N]=false):=by
  show ∀hj:N < s.size,isP s[N]=false
  intro hj
  have:=runN_stop isP s.data.toList i (by rw [hN];simpa using hj)
  simp only [hN] at this
  exact this
 have HT:Hid (runN isP s.data.toList i=N - i/\i<=N):=⟨by omega,by omega⟩
 have HI:Hid (i<=s.size):=hi
 rw [show runN isP s.data.toList i=N - i by omega]
 obtain ⟨X,hX⟩:∃X:List UInt8,X=subT s.data.toList i (N - i):=⟨_,rfl⟩
 have hsl:∀wx,(Instr.slice 9 (.string s) (some (.int .i64 (i:Int))) (some (.int .i64 (N:Int))) none).run Tryz.prog wx=.ok (.string ⟨X.toArray⟩) wx:=fun wx=>by rw [hX];exact run_sub s i N (by omega) HN.out wx
 rw [<-hX,show i+(N - i)=N by omega]
 clear h hN hi hX
 go_enter Tryz.func156,Tryz.ntmps156
 go_wp2
 go_loopw [] (fun wr=>∃j:Nat,i<=j/\j<=N/\RS b s j wr/\w.grownBy wr (some b)) (fun wr=>s.size - placeOf b wr)
 case atStart=>exact ⟨i,Nat.le_refl _,HT.out.2,HR.out,gb_refl _ _⟩
 case round =>
  obtain ⟨j,hij,hjn,hrs,hgb⟩:=hrel
  have d0:=hrs.c0
  have d1:=hrs.c1
  have df:=hrs.f1
  have HRS:Hid (RS b s j wr):=hrs
  have HGB:Hid (w.grownBy wr (some b)):=hgb
  have hns:=HN.out
  clear hrs hgb h0 h1
  by_cases hlt:j < N
  ·have hjs:j < s.size:=by omega
   have hD:isP s[j]=true:=HA.out j hij hjs hlt
   have HK:Hid (i<=j/\j < N):=⟨hij,hlt⟩
   clear hlt hjn hns hij
   have hlt2:(j:Int) < (s.size:Int):=by omega
   go_wp2
   go_quiet (first | (go_at_call 167;exact Calls.quiet_of_same (isPartByte_any _ _)))
   go_wp2
   go_roundw
   case rel =>
    have:=HK.out
    exact ⟨j+1,by omega,by omega,(HRS.out.drew _).set (j+1),gb_set (gb_drew HGB.out _) _ _⟩
   case measure =>
    have e1:=HRS.out.place
    have e2:=((HRS.out.drew nq).set (j+1)).place
    rw [e1]
    exact Nat.lt_of_le_of_lt (Nat.le_of_eq (congrArg (s.size - ·) e2)) (by omega)
  ·have hjN:j=N:=by omega
   subst hjN
   by_cases hjs:j < s.size
   ·have hD:isP s[j]=false:=HS.out hjs
    have hlt2:(j:Int) < (s.size:Int):=by omega
    clear hlt hjn hns hij
    go_wp2
    go_quiet (first | (go_at_call 167;exact Calls.quiet_of_same (isPartByte_any _ _)))
    go_wp2
    obtain ⟨W,hW⟩:∃W,wr.drewN nq=W:=⟨_,rfl⟩
    have e0:W.cell? ⟨b,0,none⟩=some (.string s):=by rw [<-hW];exact d0
    have e1:W.cell? ⟨b,1,none⟩=some (.int .i64 (j:Int)):=by rw [<-hW];exact d1
    have HW:Hid (RS b s j W/\w.grownBy W (some b)):=by
     show RS b s j W/\w.grownBy W (some b)
     rw [<-hW];exact ⟨HRS.out.drew _,gb_drew HGB.out _⟩
    rw [hW]
    clear hW d0 d1 df HRS HGB
    go_quiet (fail)
    go_wp2
    go_ret
    exact ⟨rfl,HW.out.1.drew _,gb_drew HW.out.2 _⟩
   ·have hd2:decide ((j:Int) < (s.size:Int))=false:=by simp;omega
    clear hlt hjn hns hij
    go_wp2
    go_quiet (fail)
    go_wp2
    obtain ⟨W,hW⟩:∃W,wr.drewN nq=W:=⟨_,rfl⟩
    have e0:W.cell? ⟨b,0,none⟩=some (.string s):=by rw [<-hW];exact d0
    have e1:W.cell? ⟨b,1,none⟩=some (.int .i64 (j:Int)):=by rw [<-hW];exact d1
    have HW:Hid (RS b s j W/\w.grownBy W (some b)):=by
     show RS b s j W/\w.grownBy W (some b)
     rw [<-hW];exact ⟨HRS.out.drew _,gb_drew HGB.out _⟩
    rw [hW]
    clear hW d0 d1 df HRS HGB
    go_quiet (fail)
    go_wp2
    go_ret
    exact ⟨rfl,HW.out.1.drew _,gb_drew HW.out.2 _⟩
open Go.RowKit
set_option linter.unusedVariables false
theorem emp_t2 {a:ByteArray} (h:a.size=0):a.toList.isEmpty=true:=by
 rw [Lib.toList_data,List.isEmpty_iff];exact List.length_eq_zero_iff.1 (by simpa using h)
theorem emp_f2 {a:ByteArray} (h:a.size ≠ 0):a.toList.isEmpty=false:=by
 rw [Lib.toList_data]
 cases hl:a.data.toList with
 | nil=>exact absurd (show a.size=0 from by show a.data.size=0;rw [<-Array.length_toList,hl];rfl) h
 | cons c l=>rfl
theorem RS.grow {b:Nat} {s:ByteArray} {i:Nat} {w w':World} (h:RS b s i w) (hg:w.grownBy w' none):RS b s i w':=by
 obtain ⟨t,h⟩:=h
 exact ⟨t,by rw [hg.block b ((Array.getElem?_eq_some_iff.1 h).1) (by simp)];exact h⟩
set_option maxHeartbeats 400000 in
theorem needless_any (s:ByteArray) (w:World):Calls Tryz.prog 158 #[.string s] w fun e w'=>e=.returned (.bool (decide (1 < s.data.toList.length) && decide (s.data.toList[0]?=some 48)))/\w'=w:=by
 by_cases h1:1 < s.size
 ·have h0:0 < s.size:=by omega
  have hl:decide (1 < s.data.toList.length)=true:=by simp;exact h1
  rw [hl,Bool.true_and,get_data s 0 h0]
  cases hz:((s[0].toNat:Int) == 48) with
  | true =>
   have hc:s[0]=48:=UInt8.toNat_inj.1 (by have:=eq_of_beq hz;have e48:(48:UInt8).toNat=48:=rfl;omega)
   have HZ:Hid (decide (some s[0]=some (48:UInt8))=true):=by show decide _=true;rw [hc];rfl
   rw [HZ.out]
   clear hc hl
   go_enter Tryz.func158,Tryz.ntmps158
   go_wp2
   go_ret
   exact ⟨rfl,rfl⟩
  | false =>
   have HZ:Hid (decide (some s[0]=some (48:UInt8))=false):=by
    show decide _=false
    apply decide_eq_false
    intro e
    rw [Option.some.inj e] at hz
    exact absurd hz (by decide)
   rw [HZ.out]
   clear hl
   go_enter Tryz.func158,Tryz.ntmps158
   go_wp2
   go_ret
   exact ⟨rfl,rfl⟩
 ·have hl:decide (1 < s.data.toList.length)=false:=by simp;exact Nat.le_of_not_lt h1
  rw [hl,Bool.false_and]
  clear hl
  go_enter Tryz.func158,Tryz.ntmps158
  go_wp2
  go_ret
  exact ⟨rfl,rfl⟩
set_option maxHeartbeats 1600000 in
theorem skipP (b:Nat) (s:ByteArray) (i:Nat) (w:World) (hi:i<=s.size) (h:RS b s i w) (hs:s.size < 2 ^ 62) :
  Calls Tryz.prog 159 #[.pointer (some ⟨b,0,none⟩),.int .i64 0] w fun e w'=>e=.returned (.int .i64 (rdParts true s.data.toList i).1)/\RS b s (rdParts true s.data.toList i).2 w'/\w.grownBy w' (some b):=by
 have HI:Hid (RS b s i w/\i<=s.size):=⟨h,hi⟩
 obtain ⟨E,Q,hEQ⟩:∃E Q,rdParts true s.data.toList i=(E,Q):=⟨_,_,rfl⟩
 rw [hEQ]
 have HEQ:Hid (rdParts true s.data.toList i=(E,Q)):=hEQ
 have hsl:s.data.toList.length=s.size:=by simp
 have HSL:Hid (s.data.toList.length=s.size):=hsl
 clear h hi hEQ hsl
 go_enter Tryz.func159,Tryz.ntmps159
 go_wp2
 go_loopw [] (fun wr=>∃j:Nat,j<=s.size/\RS b s j wr/\w.grownBy wr (some b)/\rdParts true s.data.toList j=(E,Q)) (fun wr=>s.size - placeOf b wr)
 case atStart=>exact ⟨i,HI.out.2,HI.out.1,gb_refl _ _,HEQ.out⟩
 case round =>
  obtain ⟨j,hj,hrs,hgb,hrd⟩:=hrel
  have CR:Hid (Calls Tryz.prog 156 #[.pointer (some ⟨b,0,none⟩),.func (.func 167) #[] #[]] wr fun e w'=>e=.returned (.string ⟨(subT s.data.toList j (runN isP s.data.toList j)).toArray⟩)/\RS b s (j+runN isP s.data.toList j) w'/\wr.grownBy w' (some b)):=run_parts b s j wr hj hrs hs
  have HPL:Hid (placeOf b wr=j):=hrs.place
  have d1:=hrs.c1
  have hle:j+runN isP s.data.toList j<=s.size:=by have:=runN_le isP s.data.toList j (by rw [HSL.out];exact hj);rw [HSL.out] at this;exact this
  have hln:=sub_len s.data.toList j (runN isP s.data.toList j) (by rw [HSL.out];exact hle)
  rw [rdParts_eq] at hrd
  obtain ⟨k,hk⟩:∃k,runN isP s.data.toList j=k:=⟨_,rfl⟩
  rw [hk] at CR hrd hle hln
  obtain ⟨T,hT⟩:∃T,subT s.data.toList j k=T:=⟨_,rfl⟩
  rw [hT] at CR hrd hln
  obtain ⟨X,hX⟩:∃X:ByteArray,X=⟨T.toArray⟩:=⟨_,rfl⟩
  rw [<-hX] at CR
  have HXd:Hid (X.data.toList=T):=by show X.data.toList=T;rw [hX]
  have hXs:X.size=k:=by rw [hX];show T.toArray.size=k;simpa using hln
  have HGB:Hid (w.grownBy wr (some b)):=hgb
  have HRS:Hid (RS b s j wr):=hrs
  have HRD:Hid ((if k=0 then (2,j) else if badZ true T=true then (2,j) else if s.data.toList[j+k]?=some 46 then rdParts true s.data.toList (j+k+1) else (0,j+k))=(E,Q)):=hrd
  clear hk hT hX hgb hrs hrd hln
  by_cases hk0:k=0
  ·have e1:=emp_t2 (hXs.trans hk0)
   have HZ:Hid (E=2/\Q=j):=by
    have:=HRD.out
    rw [if_pos hk0] at this
    exact ⟨(congrArg Prod.fst this).symm,(congrArg Prod.snd this).symm⟩
   have HK:Hid (k=0):=hk0
   clear hk0 hXs hle
   go_wp2_with (go_at_call 156;refine CR.out.mono ?_)
   rintro e w1 ⟨rfl,hr1,hg1⟩
   have HF:Hid (RS b s Q w1/\w.grownBy w1 (some b)):=by
    refine ⟨?_,gb_trans HGB.out hg1⟩
    rw [HZ.out.2];rw [HK.out] at hr1;exact hr1
   clear hr1 hg1
   go_wp2
   go_ret
   exact ⟨ret_int HZ.out.1.symm,HF.out.1,HF.out.2⟩
  ·have e1:=emp_f2 (fun h=>hk0 (hXs.symm.trans h))
   have HNE:Hid (X.data.toList.isEmpty=false):=by show X.data.toList.isEmpty=false;rw [<-Lib.toList_data];exact e1
   have HK:Hid (¬ k=0):=hk0
   have hXb:X.size < 2 ^ 62:=by omega
   have HLE:Hid (j+k<=s.size):=hle
   clear hk0 hXs hle
   go_wp2_with (go_at_call 156;refine CR.out.mono ?_)
   rintro e w1 ⟨rfl,hr1,hg1⟩
   have HR1:Hid (RS b s (j+k) w1):=hr1
   have HG1:Hid (w.grownBy w1 (some b)):=gb_trans HGB.out hg1
   clear hr1 hg1
   have CD:Hid (∀w,Calls Tryz.prog 150 #[.string X] w fun e w'=>e=.returned (.bool (numT X.data.toList))/\w.grownBy w' none):=fun w=>isDigits_any X w hXb
   obtain ⟨dX,hdX⟩:∃d,numT X.data.toList=d:=⟨_,rfl⟩
   rw [hdX] at CD
   have HDX:Hid (T.all isD=dX):=by
    show T.all isD=dX
    rw [<-hdX];unfold numT;rw [HNE.out,HXd.out];rfl
   obtain ⟨z,hz⟩:∃z,(decide (1 < X.data.toList.length) && decide (X.data.toList[0]?=some 48))=z:=⟨_,rfl⟩
   have CZ:Hid (∀w,Calls Tryz.prog 158 #[.string X] w fun e w'=>e=.returned (.bool z)/\w'=w):=fun w=>by rw [<-hz];exact needless_any X w
   have HBZ:Hid (badZ true T=(dX && z)):=by
    show badZ true T=_
    rw [<-hz,<-HDX.out,HXd.out];rfl
   clear hdX hz
   go_wp2_with (go_at_call 150;refine (CD.out _).mono ?_)
   rintro e w2 ⟨rfl,hg2⟩
   replace HR1:Hid (RS b s (j+k) w2):=HR1.out.grow hg2
   replace HG1:Hid (w.grownBy w2 (some b)):=gb_trans HG1.out (gb_weak hg2 _)
   clear hg2
   cases dX with
   | false =>
    have HB:Hid (badZ true T=false):=by show badZ true T=false;rw [HBZ.out];rfl
    cases hc:decide (s.data.toList[j+k]?=some 46) with
    | true =>
     have hc':=of_decide_eq_true hc
     have HT:Hid (rdParts true s.data.toList (j+k+1)=(E,Q)):=by
      have:=HRD.out
      rw [if_neg HK.out,if_neg (by rw [HB.out];simp),if_pos hc'] at this
      exact this
     have CT:Hid (Calls Tryz.prog 146 #[.pointer (some ⟨b,0,none⟩),.string ⟨#[46]⟩] w2 fun e w'=>e=.returned (.bool true)/\RS b s (j+k+1) w'/\w2.grownBy w' (some b)):=take_yes b s (j+k) 46 w2 hc' HR1.out hs
     have HLT:Hid (j+k < s.size):=by have:=(List.getElem?_eq_some_iff.1 hc').1;rw [HSL.out] at this;exact this
     clear hc hc'
     go_wp2_with (first | (go_at_call 146;refine CT.out.mono ?_))
     rintro e w3 ⟨rfl,hr3,hg3⟩
     have HF:Hid (RS b s (j+k+1) w3/\w.grownBy w3 (some b)):=⟨hr3,gb_trans HG1.out hg3⟩
     clear hr3 hg3
     go_wp2
     go_roundw
     case rel=>exact ⟨j+k+1,HLT.out,HF.out.1,HF.out.2,HT.out⟩
     case measure =>
      rw [HPL.out,HF.out.1.place]
      have:=HLT.out
      omega
    | false =>
     have hc':=of_decide_eq_false hc
     have HT:Hid (E=0/\Q=j+k):=by
      have:=HRD.out
      rw [if_neg HK.out,if_neg (by rw [HB.out];simp),if_neg hc'] at this
      exact ⟨(congrArg Prod.fst this).symm,(congrArg Prod.snd this).symm⟩
     have CT:Hid (Calls Tryz.prog 146 #[.pointer (some ⟨b,0,none⟩),.string ⟨#[46]⟩] w2 fun e w'=>e=.returned (.bool false)/\RS b s (j+k) w'/\w2.grownBy w' (some b)):=take_no b s (j+k) 46 w2 HLE.out hc' HR1.out hs
     clear hc hc'
     go_wp2_with (first | (go_at_call 146;refine CT.out.mono ?_))
     rintro e w3 ⟨rfl,hr3,hg3⟩
     have HF:Hid (RS b s (j+k) w3/\w.grownBy w3 (some b)):=⟨hr3,gb_trans HG1.out hg3⟩
     clear hr3 hg3
     go_wp2
     go_ret
     exact ⟨ret_int HT.out.1.symm,by rw [HT.out.2];exact HF.out.1,HF.out.2⟩
   | true =>
    cases z with
    | true =>
     have HZ:Hid (E=2/\Q=j):=by
      have:=HRD.out
      rw [if_neg HK.out,if_pos (by rw [HBZ.out];rfl)] at this
      exact ⟨(congrArg Prod.fst this).symm,(congrArg Prod.snd this).symm⟩
     have f1:=HR1.out.c1
     have f2:=HR1.out.f1
     go_wp2_with (first | (go_at_call 158;refine (CZ.out _).mono ?_;rintro e w' ⟨rfl,rfl⟩))
     go_ret
     exact ⟨ret_int HZ.out.1.symm,by rw [HZ.out.2];exact HR1.out.set j,gb_set HG1.out _ _⟩
    | false =>
     have HB:Hid (badZ true T=false):=by show badZ true T=false;rw [HBZ.out];rfl
     cases hc:decide (s.data.toList[j+k]?=some 46) with
     | true =>
      have hc':=of_decide_eq_true hc
      have HT:Hid (rdParts true s.data.toList (j+k+1)=(E,Q)):=by
       have:=HRD.out
       rw [if_neg HK.out,if_neg (by rw [HB.out];simp),if_pos hc'] at this
       exact this
      have CT:Hid (Calls Tryz.prog 146 #[.pointer (some ⟨b,0,none⟩),.string ⟨#[46]⟩] w2 fun e w'=>e=.returned (.bool true)/\RS b s (j+k+1) w'/\w2.grownBy w' (some b)):=take_yes b s (j+k) 46 w2 hc' HR1.out hs
      have HLT:Hid (j+k < s.size):=by have:=(List.getElem?_eq_some_iff.1 hc').1;rw [HSL.out] at this;exact this
      clear hc hc'
      go_wp2_with (first | (go_at_call 158;refine (CZ.out _).mono ?_;rintro e w' ⟨rfl,rfl⟩) | (go_at_call 146;refine CT.out.mono ?_))
      rintro e w3 ⟨rfl,hr3,hg3⟩
      have HF:Hid (RS b s (j+k+1) w3/\w.grownBy w3 (some b)):=⟨hr3,gb_trans HG1.out hg3⟩
      clear hr3 hg3
      go_wp2
      go_roundw
      case rel=>exact ⟨j+k+1,HLT.out,HF.out.1,HF.out.2,HT.out⟩
      case measure =>
       rw [HPL.out,HF.out.1.place]
       have:=HLT.out
       omega
     | false =>
      have hc':=of_decide_eq_false hc
      have HT:Hid (E=0/\Q=j+k):=by
       have:=HRD.out
       rw [if_neg HK.out,if_neg (by rw [HB.out];simp),if_neg hc'] at this
       exact ⟨(congrArg Prod.fst this).symm,(congrArg Prod.snd this).symm⟩
      have CT:Hid (Calls Tryz.prog 146 #[.pointer (some ⟨b,0,none⟩),.string ⟨#[46]⟩] w2 fun e w'=>e=.returned (.bool false)/\RS b s (j+k) w'/\w2.grownBy w' (some b)):=take_no b s (j+k) 46 w2 HLE.out hc' HR1.out hs
      clear hc hc'
      go_wp2_with (first | (go_at_call 158;refine (CZ.out _).mono ?_;rintro e w' ⟨rfl,rfl⟩) | (go_at_call 146;refine CT.out.mono ?_))
      rintro e w3 ⟨rfl,hr3,hg3⟩
      have HF:Hid (RS b s (j+k) w3/\w.grownBy w3 (some b)):=⟨hr3,gb_trans HG1.out hg3⟩
      clear hr3 hg3
      go_wp2
      go_ret
      exact ⟨ret_int HT.out.1.symm,by rw [HT.out.2];exact HF.out.1,HF.out.2⟩
set_option maxHeartbeats 1600000 in
theorem skipB (b:Nat) (s:ByteArray) (i:Nat) (w:World) (hi:i<=s.size) (h:RS b s i w) (hs:s.size < 2 ^ 62) :
  Calls Tryz.prog 159 #[.pointer (some ⟨b,0,none⟩),.int .i64 1] w fun e w'=>e=.returned (.int .i64 (rdParts false s.data.toList i).1)/\RS b s (rdParts false s.data.toList i).2 w'/\w.grownBy w' (some b):=by
 have HI:Hid (RS b s i w/\i<=s.size):=⟨h,hi⟩
 obtain ⟨E,Q,hEQ⟩:∃E Q,rdParts false s.data.toList i=(E,Q):=⟨_,_,rfl⟩
 rw [hEQ]
 have HEQ:Hid (rdParts false s.data.toList i=(E,Q)):=hEQ
 have hsl:s.data.toList.length=s.size:=by simp
 have HSL:Hid (s.data.toList.length=s.size):=hsl
 clear h hi hEQ hsl
 go_enter Tryz.func159,Tryz.ntmps159
 go_wp2
 go_loopw [] (fun wr=>∃j:Nat,j<=s.size/\RS b s j wr/\w.grownBy wr (some b)/\rdParts false s.data.toList j=(E,Q)) (fun wr=>s.size - placeOf b wr)
 case atStart=>exact ⟨i,HI.out.2,HI.out.1,gb_refl _ _,HEQ.out⟩
 case round =>
  obtain ⟨j,hj,hrs,hgb,hrd⟩:=hrel
  have CR:Hid (Calls Tryz.prog 156 #[.pointer (some ⟨b,0,none⟩),.func (.func 167) #[] #[]] wr fun e w'=>e=.returned (.string ⟨(subT s.data.toList j (runN isP s.data.toList j)).toArray⟩)/\RS b s (j+runN isP s.data.toList j) w'/\wr.grownBy w' (some b)):=run_parts b s j wr hj hrs hs
  have HPL:Hid (placeOf b wr=j):=hrs.place
  have d1:=hrs.c1
  have hle:j+runN isP s.data.toList j<=s.size:=by have:=runN_le isP s.data.toList j (by rw [HSL.out];exact hj);rw [HSL.out] at this;exact this
  have hln:=sub_len s.data.toList j (runN isP s.data.toList j) (by rw [HSL.out];exact hle)
  rw [rdParts_eq] at hrd
  obtain ⟨k,hk⟩:∃k,runN isP s.data.toList j=k:=⟨_,rfl⟩
  rw [hk] at CR hrd hle hln
  obtain ⟨T,hT⟩:∃T,subT s.data.toList j k=T:=⟨_,rfl⟩
  rw [hT] at CR hrd hln
  obtain ⟨X,hX⟩:∃X:ByteArray,X=⟨T.toArray⟩:=⟨_,rfl⟩
  rw [<-hX] at CR
  have HXd:Hid (X.data.toList=T):=by show X.data.toList=T;rw [hX]
  have hXs:X.size=k:=by rw [hX];show T.toArray.size=k;simpa using hln
  have HGB:Hid (w.grownBy wr (some b)):=hgb
  have HRS:Hid (RS b s j wr):=hrs
  have HRD:Hid ((if k=0 then (2,j) else if badZ false T=true then (2,j) else if s.data.toList[j+k]?=some 46 then rdParts false s.data.toList (j+k+1) else (0,j+k))=(E,Q)):=hrd
  clear hk hT hX hgb hrs hrd hln
  by_cases hk0:k=0
  ·have e1:=emp_t2 (hXs.trans hk0)
   have HZ:Hid (E=2/\Q=j):=by
    have:=HRD.out
    rw [if_pos hk0] at this
    exact ⟨(congrArg Prod.fst this).symm,(congrArg Prod.snd this).symm⟩
   have HK:Hid (k=0):=hk0
   clear hk0 hXs hle
   go_wp2_with (go_at_call 156;refine CR.out.mono ?_)
   rintro e w1 ⟨rfl,hr1,hg1⟩
   have HF:Hid (RS b s Q w1/\w.grownBy w1 (some b)):=by
    refine ⟨?_,gb_trans HGB.out hg1⟩
    rw [HZ.out.2];rw [HK.out] at hr1;exact hr1
   clear hr1 hg1
   go_wp2
   go_ret
   exact ⟨ret_int HZ.out.1.symm,HF.out.1,HF.out.2⟩
  ·have e1:=emp_f2 (fun h=>hk0 (hXs.symm.trans h))
   have HNE:Hid (X.data.toList.isEmpty=false):=by show X.data.toList.isEmpty=false;rw [<-Lib.toList_data];exact e1
   have HK:Hid (¬ k=0):=hk0
   have hXb:X.size < 2 ^ 62:=by omega
   have HLE:Hid (j+k<=s.size):=hle
   clear hk0 hXs hle
   go_wp2_with (go_at_call 156;refine CR.out.mono ?_)
   rintro e w1 ⟨rfl,hr1,hg1⟩
   have HR1:Hid (RS b s (j+k) w1):=hr1
   have HG1:Hid (w.grownBy w1 (some b)):=gb_trans HGB.out hg1
   clear hr1 hg1
   have HB:Hid (badZ false T=false):=rfl
   cases hc:decide (s.data.toList[j+k]?=some 46) with
   | true =>
    have hc':=of_decide_eq_true hc
    have HT:Hid (rdParts false s.data.toList (j+k+1)=(E,Q)):=by
     have:=HRD.out
     rw [if_neg HK.out,if_neg (by rw [HB.out];simp),if_pos hc'] at this
     exact this
    have CT:Hid (Calls Tryz.prog 146 #[.pointer (some ⟨b,0,none⟩),.string ⟨#[46]⟩] w1 fun e w'=>e=.returned (.bool true)/\RS b s (j+k+1) w'/\w1.grownBy w' (some b)):=take_yes b s (j+k) 46 w1 hc' HR1.out hs
    have HLT:Hid (j+k < s.size):=by have:=(List.getElem?_eq_some_iff.1 hc').1;rw [HSL.out] at this;exact this
    clear hc hc'
    go_wp2_with (first | (go_at_call 146;refine CT.out.mono ?_))
    rintro e w3 ⟨rfl,hr3,hg3⟩
    have HF:Hid (RS b s (j+k+1) w3/\w.grownBy w3 (some b)):=⟨hr3,gb_trans HG1.out hg3⟩
    clear hr3 hg3
    go_wp2
    go_roundw
    case rel=>exact ⟨j+k+1,HLT.out,HF.out.1,HF.out.2,HT.out⟩
    case measure =>
     rw [HPL.out,HF.out.1.place]
     have:=HLT.out
     omega
   | false =>
    have hc':=of_decide_eq_false hc
    have HT:Hid (E=0/\Q=j+k):=by
     have:=HRD.out
     rw [if_neg HK.out,if_neg (by rw [HB.out];simp),if_neg hc'] at this
     exact ⟨(congrArg Prod.fst this).symm,(congrArg Prod.snd this).symm⟩
    have CT:Hid (Calls Tryz.prog 146 #[.pointer (some ⟨b,0,none⟩),.string ⟨#[46]⟩] w1 fun e w'=>e=.returned (.bool false)/\RS b s (j+k) w'/\w1.grownBy w' (some b)):=take_no b s (j+k) 46 w1 HLE.out hc' HR1.out hs
    clear hc hc'
    go_wp2_with (first | (go_at_call 146;refine CT.out.mono ?_))
    rintro e w3 ⟨rfl,hr3,hg3⟩
    have HF:Hid (RS b s (j+k) w3/\w.grownBy w3 (some b)):=⟨hr3,gb_trans HG1.out hg3⟩
    clear hr3 hg3
    go_wp2
    go_ret
    exact ⟨ret_int HT.out.1.symm,by rw [HT.out.2];exact HF.out.1,HF.out.2⟩
open Go.RowKit
set_option linter.unusedVariables false
theorem val_take (T:List UInt8) (m:Nat) (hm:m < T.length):valN (T.take (m+1))=10 * valN (T.take m)+((T[m].toNat:Int) - 48):=by
 rw [List.take_succ_eq_append_getElem hm,valN_snoc];rfl
set_option maxHeartbeats 1600000 in
theorem num_any (b:Nat) (s:ByteArray) (i:Nat) (w:World) (hi:i<=s.size) (h:RS b s i w) (hs:s.size < 2 ^ 62) :
  Calls Tryz.prog 147 #[.pointer (some ⟨b,0,none⟩)] w fun e w'=>e=.returned (.tuple #[.int .i64 (rdNum s.data.toList i).2.1,.int .i64 (rdNum s.data.toList i).1])/\RS b s (rdNum s.data.toList i).2.2 w'/\w.grownBy w' (some b):=by
 obtain ⟨E,V,Q,hEQ⟩:∃E V Q,rdNum s.data.toList i=(E,V,Q):=⟨_,_,_,rfl⟩
 rw [hEQ]
 have hsl:s.data.toList.length=s.size:=by simp
 have CR:Hid (Calls Tryz.prog 156 #[.pointer (some ⟨b,0,none⟩),.func (.func 157) #[] #[]] w fun e w'=>e=.returned (.string ⟨(subT s.data.toList i (runN isD s.data.toList i)).toArray⟩)/\RS b s (i+runN isD s.data.toList i) w'/\w.grownBy w' (some b)):=run_digits b s i w hi h hs
 have d1:=h.c1
 have hle:i+runN isD s.data.toList i<=s.size:=by have:=runN_le isD s.data.toList i (by rw [hsl];exact hi);rw [hsl] at this;exact this
 have hln:=sub_len s.data.toList i (runN isD s.data.toList i) (by rw [hsl];exact hle)
 have hall:=sub_all isD s.data.toList i
 have hT0:∀k,0 < k->i+k<=s.data.toList.length->(subT s.data.toList i k)[0]?=s.data.toList[i]?:=by
  intro k hk hik
  unfold subT
  rw [List.getElem?_take_of_lt hk,List.getElem?_drop];rfl
 unfold rdNum at hEQ
 obtain ⟨k,hk⟩:∃k,runN isD s.data.toList i=k:=⟨_,rfl⟩
 rw [hk] at CR hEQ hle hln hall
 have hT0k:=hT0 k
 obtain ⟨T,hT⟩:∃T,subT s.data.toList i k=T:=⟨_,rfl⟩
 rw [hT] at CR hEQ hln hall hT0k
 obtain ⟨X,hX⟩:∃X:ByteArray,X=⟨T.toArray⟩:=⟨_,rfl⟩
 rw [<-hX] at CR
 have HXd:Hid (X.data.toList=T):=by show X.data.toList=T;rw [hX]
 have hXs:X.size=k:=by rw [hX];show T.toArray.size=k;simpa using hln
 have HEQ:Hid ((if k=0 then (2,0,i) else if 1 < k/\s.data.toList[i]?=some 48 then (2,0,i) else if valN T > 999999999 then (3,0,i) else (0,valN T,i+k))=(E,V,Q)):=hEQ
 have HALL:Hid (T.all isD=true/\T.length=k/\(0 < k->T[0]?=s.data.toList[i]?)):=⟨hall,hln,fun h=>hT0k h (by rw [hsl];exact hle)⟩
 clear hk hT hX hEQ hln hall hT0 hT0k h hsl hi
 by_cases hk0:k=0
 ·have e1:=emp_t2 (hXs.trans hk0)
  have HZ:Hid (E=2/\V=0/\Q=i+k):=by
   have:=HEQ.out
   rw [if_pos hk0] at this
   exact ⟨(congrArg Prod.fst this).symm,(congrArg (·.2.1) this).symm,by rw [hk0];exact (congrArg (·.2.2) this).symm⟩
  clear hk0 hXs hle
  go_enter Tryz.func147,Tryz.ntmps147
  go_wp2_with (go_at_call 156;refine CR.out.mono ?_)
  rintro e w1 ⟨rfl,hr1,hg1⟩
  have HF:Hid (RS b s Q w1/\w.grownBy w1 (some b)):=⟨by rw [HZ.out.2.2];exact hr1,hg1⟩
  clear hr1 hg1
  go_wp2
  refine bodyPost_ret (results_tmp2 rfl _ _ _) rfl ⟨?_,HF.out.1,HF.out.2⟩
  rw [HZ.out.1,HZ.out.2.1];rfl
 ·have e1:=emp_f2 (fun h=>hk0 (hXs.symm.trans h))
  obtain ⟨z,hz⟩:∃z,(decide (1 < X.data.toList.length) && decide (X.data.toList[0]?=some 48))=z:=⟨_,rfl⟩
  have CZ:Hid (∀w,Calls Tryz.prog 158 #[.string X] w fun e w'=>e=.returned (.bool z)/\w'=w):=fun w=>by rw [<-hz];exact needless_any X w
  have HZz:Hid (z=decide (1 < k/\s.data.toList[i]?=some 48)):=by
   show z=_
   rw [<-hz,HXd.out,HALL.out.2.1,HALL.out.2.2 (by omega)]
   rw [Bool.eq_iff_iff];simp
  have HK:Hid (¬ k=0):=hk0
  clear hz hk0
  go_enter Tryz.func147,Tryz.ntmps147
  go_wp2_with (go_at_call 156;refine CR.out.mono ?_)
  rintro e w1 ⟨rfl,hr1,hg1⟩
  have HR1:Hid (RS b s (i+k) w1):=hr1
  have HG1:Hid (w.grownBy w1 (some b)):=hg1
  have f1:=hr1.c1
  have f2:=hr1.f1
  clear hr1 hg1
  cases z with
  | true =>
   have HZ:Hid (E=2/\V=0/\Q=i):=by
    have:=HEQ.out
    rw [if_neg HK.out,if_pos (of_decide_eq_true HZz.out.symm)] at this
    exact ⟨(congrArg Prod.fst this).symm,(congrArg (·.2.1) this).symm,(congrArg (·.2.2) this).symm⟩
   go_wp2_with (first | (go_at_call 158;refine (CZ.out _).mono ?_;rintro e w' ⟨rfl,rfl⟩))
   refine bodyPost_ret (results_tmp2 rfl _ _ _) rfl ⟨?_,by rw [HZ.out.2.2];exact HR1.out.set i,gb_set HG1.out _ _⟩
   rw [HZ.out.1,HZ.out.2.1];rfl
  | false =>
   have HV:Hid ((if valN T > 999999999 then (3,0,i) else (0,valN T,i+k))=(E,V,Q)):=by
    have:=HEQ.out
    rw [if_neg HK.out,if_neg (of_decide_eq_false HZz.out.symm)] at this
    exact this
   have kw:=Lib.run_convert_string_bytes (P:=Tryz.prog) w1 9 53 5 X Tryz.underlying9 Tryz.underlying53 Tryz.underlying5
   obtain ⟨W,hW⟩:∃W,Lib.bytesWorld w1 5 X=W:=⟨_,rfl⟩
   have HC:Hid (∀j,(hj:j < X.size)->W.cell? ⟨w1.heap.size,j,none⟩=some (.int .u8 (X[j].toNat:Int))):=by
    show ∀j,(hj:j < X.size)->W.cell? ⟨w1.heap.size,j,none⟩=some (.int .u8 (X[j].toNat:Int))
    intro j hj
    rw [<-hW,Lib.bytesWorld_cell w1 _ X j hj]
    have:X.data.toList.getD j 0=X[j]:=by
     rw [List.getD_eq_getElem?_getD,get_data X j hj];rfl
    rw [this]
   have hgW:w1.grownBy W none:=by rw [<-hW];exact gb_bytes w1 _ X
   rw [hW] at kw
   have HRW:Hid (RS b s (i+k) W):=HR1.out.grow hgW
   have HGW:Hid (w.grownBy W (some b)):=gb_trans HG1.out (gb_weak hgW _)
   have g1:=HRW.out.c1
   have g2:=HRW.out.f1
   clear hW hgW f1 f2
   go_wp2_with (first | (go_at_call 158;refine (CZ.out _).mono ?_;rintro e w' ⟨rfl,rfl⟩))
   have HXk:Hid (X.size=k):=hXs
   have hks:k < 2 ^ 62:=by omega
   clear hXs hle
   go_loop [6,26] (fun vn vi=>∃m:Nat,m<=k/\vi=.int .i64 m/\vn=.int .i64 (valN (T.take m))/\valN (T.take m)<=999999999) (fun _ vi=>k - (intOf vi).toNat)
   case atStart=>exact ⟨0,Nat.zero_le _,rfl,rfl,by show (0:Int)<=_;omega⟩
   case round =>
    obtain ⟨m,hm,rfl,rfl,hvm⟩:=hrel
    by_cases hlt:m < k
    ·have hmT:m < T.length:=by rw [HALL.out.2.1];exact hlt
     have hmX:m < X.size:=by rw [HXk.out];exact hlt
     have hXT:X[m]=T[m]:=by
      have:=get_data X m hmX
      rw [HXd.out,List.getElem?_eq_getElem hmT] at this
      exact (Option.some.inj this).symm
     have cm:=HC.out m hmX
     have hdg:=isD_ge (List.all_eq_true.1 HALL.out.1 T[m] (List.getElem_mem hmT))
     have hvt:=val_take T m hmT
     have hv0:0<=valN (T.take m):=val_nn _ (List.all_eq_true.2 (fun c hc=>List.all_eq_true.1 HALL.out.1 c (List.mem_of_mem_take hc)))
     have hpre:valN (T.take (m+1))<=valN T:=by
      have:=val_prefix (T.take (m+1)) (T.drop (m+1)) (by rw [List.take_append_drop];exact HALL.out.1)
      rw [List.take_append_drop] at this;exact this
     rw [hXT] at cm
     obtain ⟨c,hc⟩:∃c:Int,c=(T[m].toNat:Int):=⟨_,rfl⟩
     rw [<-hc] at cm hvt
     obtain ⟨v,hv⟩:∃v,v=valN (T.take m):=⟨_,rfl⟩
     rw [<-hv] at hvt hv0 hvm
     rw [<-hv]
     have hc0:48<=c/\c<=57:=by omega
     have r1:IntKind.i64.wrap (10 * v)=10 * v:=by rw [IntKind.wrap_i64];omega
     have r2:IntKind.u8.wrap (c - 48)=c - 48:=by rw [IntKind.wrap_u8];omega
     have r3:IntKind.i64.wrap (c - 48)=c - 48:=by rw [IntKind.wrap_i64];omega
     have r4:IntKind.i64.wrap (10 * v+(c - 48))=10 * v+(c - 48):=by rw [IntKind.wrap_i64];omega
     have HVT:Hid (valN (T.take (m+1))=10 * v+(c - 48)/\valN (T.take (m+1))<=valN T):=⟨hvt,hpre⟩
     clear hc hv hXT hdg hvt hpre hmT hmX
     by_cases hbig:999999999 < 10 * v+(c - 48)
     ·have HZ:Hid (E=3/\V=0/\Q=i):=by
       have h1:=HVT.out
       have:=HV.out
       rw [if_pos (by omega)] at this
       exact ⟨(congrArg Prod.fst this).symm,(congrArg (·.2.1) this).symm,(congrArg (·.2.2) this).symm⟩
      go_wp2
      refine bodyPost_ret (results_tmp2 rfl _ _ _) rfl ⟨?_,by rw [HZ.out.2.2];exact HRW.out.set i,gb_set HGW.out _ _⟩
      rw [HZ.out.1,HZ.out.2.1];rfl
     ·go_wp2
      go_round
      case rel=>exact ⟨m+1,by omega,by go_num,by rw [HVT.out.1],by rw [HVT.out.1];omega⟩
      case measure=>simp [intOf];omega
    ·have hmk:m=k:=by omega
     have HTk:Hid (T.take m=T):=by show T.take m=T;rw [hmk];exact List.take_of_length_le (by rw [HALL.out.2.1];exact Nat.le_refl _)
     have HZ:Hid (E=0/\V=valN (T.take m)/\Q=i+k):=by
      have:=HV.out
      rw [HTk.out] at hvm ⊢
      rw [if_neg (by omega)] at this
      exact ⟨(congrArg Prod.fst this).symm,(congrArg (·.2.1) this).symm,(congrArg (·.2.2) this).symm⟩
     clear hmk hm hvm
     go_wp2
     refine bodyPost_ret (results_tmp2 rfl _ _ _) rfl ⟨?_,by rw [HZ.out.2.2];exact HRW.out,HGW.out⟩
     rw [HZ.out.1,HZ.out.2.1];rfl
end Go.Proofs.YtpeghomkaphdcaaGreatDoor
