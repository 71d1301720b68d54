import Derived.Test.YtonfldbigenfhaaGreatDoorM02
namespace Go.Proofs.YtonfldbigenfhaaGreatDoor
open Go.RowKit
set_option linter.unusedVariables false
set_option maxHeartbeats 400000 in
theorem isPartByte_any (c:UInt8) (w:World):Calls Tryz.prog 111 #[.int .u8 (c.toNat:Int)] w fun e w'=>e=.returned (.bool (isP c))/\w'=w:=by
 go_enter Tryz.func111,Tryz.ntmps111
 go_wp2_with (go_at_call 138;refine (isDigit_any _ _).mono ?_;rintro e w' ⟨rfl,rfl⟩)
 all_goals go_ret
 all_goals (refine ⟨ret_bool ?_,rfl⟩;rw [Bool.eq_iff_iff];unfold isP;simp_all;try omega)
def RS (b:Nat) (s:ByteArray) (i:Nat) (w:World):Prop:=∃t,w.heap[b]?=some (.cells #[.string s,.int .i64 (i:Int)] t (0,0))
theorem RS.c0 {b:Nat} {s:ByteArray} {i:Nat} {w:World} (h:RS b s i w):w.cell? ⟨b,0,none⟩=some (.string s):=by obtain ⟨t,h⟩:=h;rw [Lib.cell_of_heap h];rfl
theorem RS.c1 {b:Nat} {s:ByteArray} {i:Nat} {w:World} (h:RS b s i w):w.cell? ⟨b,1,none⟩=some (.int .i64 (i:Int)):=by obtain ⟨t,h⟩:=h;rw [Lib.cell_of_heap h];rfl
theorem RS.f1 {b:Nat} {s:ByteArray} {i:Nat} {w:World} (h:RS b s i w):w.frozen? ⟨b,1,none⟩=false:=by obtain ⟨t,h⟩:=h;exact Lib.frozen_of_heap h 1
theorem RS.drew {b:Nat} {s:ByteArray} {i:Nat} {w:World} (h:RS b s i w) (n:Nat):RS b s i (w.drewN n):=h
theorem RS.set {b:Nat} {s:ByteArray} {i:Nat} {w:World} (h:RS b s i w) (j:Nat):RS b s j (w.setCell ⟨b,1,none⟩ (.int .i64 (j:Int))):=by
 obtain ⟨t,h⟩:=h
 exact ⟨t,by simp [World.setCell,Array.getElem?_modify,h]⟩
theorem prefix_any (s p:ByteArray) (w:World) :
  Calls Tryz.prog 106 #[.string s,.string p] w fun e w'=>e=.returned (.bool (Lib.hasPrefix s.data.toList p.data.toList))/\w'=w:=Any.strings_HasPrefix Tryz.lays99 s p w
set_option maxHeartbeats 400000 in
theorem next_any (b:Nat) (s t:ByteArray) (i:Nat) (w:World) (hi:i<=s.size) (h:RS b s i w) :
  Calls Tryz.prog 87 #[.pointer (some ⟨b,0,none⟩),.string t] w fun e w'=>e=.returned (.bool (Lib.hasPrefix (s.data.toList.drop i) t.data.toList))/\∃n,w'=w.drewN n:=by
 have h0:=h.c0
 have h1:=h.c1
 obtain ⟨X,hX⟩:∃X:ByteArray,X=⟨(s.data.toList.drop i).toArray⟩:=⟨_,rfl⟩
 have sl:∀wx,(Instr.slice 9 (.string s) (some (.int .i64 (i:Int))) none none).run Tryz.prog wx=.ok (.string X) wx:=fun wx=>by rw [hX];exact run_suf s i hi wx
 obtain ⟨p,hp⟩:∃p,Lib.hasPrefix (s.data.toList.drop i) t.data.toList=p:=⟨_,rfl⟩
 have CP:Hid (∀w,Calls Tryz.prog 106 #[.string X,.string t] w fun e w'=>e=.returned (.bool p)/\w'=w):=fun w=>by
  rw [<-hp]
  have:=prefix_any X t w
  rw [hX] at this ⊢
  exact this
 rw [hp]
 clear h hX hp hi
 go_enter Tryz.func87,Tryz.ntmps87
 go_wp2
 go_quiet (first | (go_at_call 106;exact Calls.quiet_of_same (CP.out _)))
 go_wp2
 go_ret
 exact ⟨rfl,_,rfl⟩
set_option maxHeartbeats 400000 in
theorem take_any (b:Nat) (s t:ByteArray) (i:Nat) (w:World) (hi:i<=s.size) (h:RS b s i w) (hs:s.size < 2 ^ 62) (ht:t.size < 2 ^ 62) :
  Calls Tryz.prog 60 #[.pointer (some ⟨b,0,none⟩),.string t] w fun e w'=>e=.returned (.bool (Lib.hasPrefix (s.data.toList.drop i) t.data.toList))/\RS b s (if Lib.hasPrefix (s.data.toList.drop i) t.data.toList then i+t.size else i) w'/\w.grownBy w' (some b):=by
 obtain ⟨p,hp⟩:∃p,Lib.hasPrefix (s.data.toList.drop i) t.data.toList=p:=⟨_,rfl⟩
 have CN:Hid (Calls Tryz.prog 87 #[.pointer (some ⟨b,0,none⟩),.string t] w fun e w'=>e=.returned (.bool p)/\∃n,w'=w.drewN n):=by
  show Calls _ _ _ _ _
  rw [<-hp];exact next_any b s t i w hi h
 rw [hp]
 have HR:Hid (RS b s i w):=h
 have hw:IntKind.i64.wrap ((i:Int)+(t.size:Int))=((i+t.size:Nat):Int):=by rw [IntKind.wrap_i64];omega
 clear hp h hs ht hi
 cases p with
 | true =>
  go_enter Tryz.func60,Tryz.ntmps60
  go_wp2_with (go_at_call 87;refine CN.out.mono ?_)
  rintro e w1 ⟨rfl,n,hn⟩
  have HR1:Hid (RS b s i w1):=by show RS b s i w1;rw [hn];exact HR.out.drew n
  have HG1:Hid (w.grownBy w1 (some b)):=by show w.grownBy w1 (some b);rw [hn];exact gb_drew (gb_refl w _) n
  have d1:=HR1.out.c1
  have df:=HR1.out.f1
  clear hn
  go_wp2
  go_ret
  exact ⟨rfl,HR1.out.set (i+t.size),gb_set HG1.out _ _⟩
 | false =>
  go_enter Tryz.func60,Tryz.ntmps60
  go_wp2_with (go_at_call 87;refine CN.out.mono ?_)
  rintro e w1 ⟨rfl,n,hn⟩
  have HR1:Hid (RS b s i w1):=by show RS b s i w1;rw [hn];exact HR.out.drew n
  have HG1:Hid (w.grownBy w1 (some b)):=by show w.grownBy w1 (some b);rw [hn];exact gb_drew (gb_refl w _) n
  clear hn
  go_wp2
  go_ret
  exact ⟨rfl,HR1.out,HG1.out⟩
set_option maxHeartbeats 400000 in
theorem ended_any (b:Nat) (s:ByteArray) (i:Nat) (w:World) (h:RS b s i w) :
  Calls Tryz.prog 59 #[.pointer (some ⟨b,0,none⟩)] w fun e w'=>e=.returned (.bool (decide (i=s.size)))/\∃n,w'=w.drewN n:=by
 have h0:=h.c0
 have h1:=h.c1
 clear h
 by_cases hc:i=s.size
 ·have hd:((i:Int) == (s.size:Int))=true:=by simp;omega
  have HD:Hid (decide (i=s.size)=true):=decide_eq_true hc
  rw [HD.out]
  clear hc
  go_enter Tryz.func59,Tryz.ntmps59
  go_wp2
  go_quiet (fail)
  go_wp2
  go_ret
  exact ⟨rfl,_,rfl⟩
 ·have hd:((i:Int) == (s.size:Int))=false:=by simp;omega
  have HD:Hid (decide (i=s.size)=false):=decide_eq_false hc
  rw [HD.out]
  clear hc
  go_enter Tryz.func59,Tryz.ntmps59
  go_wp2
  go_quiet (fail)
  go_wp2
  go_ret
  exact ⟨rfl,_,rfl⟩
theorem prefix_one (l:List UInt8) (i:Nat) (c:UInt8):Lib.hasPrefix (l.drop i) [c]=decide (l[i]?=some c):=by
 have e:l[i]?=(l.drop i)[0]?:=by rw [List.getElem?_drop];rfl
 rw [e]
 cases l.drop i with
 | nil=>rfl
 | cons x r =>
  show (c == x && true)=decide (some x=some c)
  rw [Bool.and_true]
  by_cases h:x=c
  ·subst h;rw [decide_eq_true rfl];exact beq_self_eq_true x
  ·rw [decide_eq_false (fun e=>h (Option.some.inj e))]
   exact beq_eq_false_iff_ne.2 (fun e=>h e.symm)
theorem take_yes (b:Nat) (s:ByteArray) (i:Nat) (c:UInt8) (w:World) (hc:s.data.toList[i]?=some c) (h:RS b s i w) (hs:s.size < 2 ^ 62) :
  Calls Tryz.prog 60 #[.pointer (some ⟨b,0,none⟩),.string ⟨#[c]⟩] w fun e w'=>e=.returned (.bool true)/\RS b s (i+1) w'/\w.grownBy w' (some b):=by
 have hlt:i < s.size:=by have:=(List.getElem?_eq_some_iff.1 hc).1;simpa using this
 have:=take_any b s ⟨#[c]⟩ i w (Nat.le_of_lt hlt) h hs (by show 1 < _;decide)
 rw [show (ByteArray.mk #[c]).data.toList=[c] from rfl,prefix_one,decide_eq_true hc] at this
 exact this
theorem take_no (b:Nat) (s:ByteArray) (i:Nat) (c:UInt8) (w:World) (hi:i<=s.size) (hc:¬ s.data.toList[i]?=some c) (h:RS b s i w) (hs:s.size < 2 ^ 62) :
  Calls Tryz.prog 60 #[.pointer (some ⟨b,0,none⟩),.string ⟨#[c]⟩] w fun e w'=>e=.returned (.bool false)/\RS b s i w'/\w.grownBy w' (some b):=by
 have:=take_any b s ⟨#[c]⟩ i w hi h hs (by show 1 < _;decide)
 rw [show (ByteArray.mk #[c]).data.toList=[c] from rfl,prefix_one,decide_eq_false hc] at this
 exact this
open Go.RowKit
def placeOf (b:Nat) (w:World):Nat:=match w.cell? ⟨b,1,none⟩ with | some (.int .i64 x)=>x.toNat | _=>0
theorem RS.place {b:Nat} {s:ByteArray} {i:Nat} {w:World} (h:RS b s i w):placeOf b w=i:=by unfold placeOf;rw [h.c1];simp
set_option maxHeartbeats 800000 in
theorem run_digits (b:Nat) (s:ByteArray) (i:Nat) (w:World) (hi:i<=s.size) (h:RS b s i w) (hs:s.size < 2 ^ 62) :
  Calls Tryz.prog 90 #[.pointer (some ⟨b,0,none⟩),.func (.func 138) #[] #[]] w fun e w'=>e=.returned (.string ⟨(subT s.data.toList i (runN isD s.data.toList i)).toArray⟩)/\RS b s (i+runN isD s.data.toList i) w'/\w.grownBy w' (some b):=by
 have h0:=h.c0
 have h1:=h.c1
 have HR:Hid (RS b s i w):=h
 obtain ⟨N,hN⟩:∃N,i+runN isD s.data.toList i=N:=⟨_,rfl⟩
 have HN:Hid (N<=s.size):=by
  show N<=s.size
  have:=runN_le isD s.data.toList i (by simpa using hi)
  simp at this;omega
 have HA:Hid (∀j,i<=j->(hj:j < s.size)->j < N->isD s[j]=true):=by
  show ∀j,i<=j->(hj:j < s.size)->j < N->isD s[j]=true
  intro j h1 hj h2
  obtain ⟨g1,g2⟩:=runN_at isD s.data.toList i (j - i) (by omega)
  have e:i+(j - i)=j:=by omega
  simp only [e] at g2
  exact g2
 have HS:Hid (∀hj:N < s.size,isD s[N]=false):=by
  show ∀hj:N < s.size,isD s[N]=false
  intro hj
  have:=runN_stop isD s.data.toList i (by rw [hN];simpa using hj)
  simp only [hN] at this
  exact this
 have HT:Hid (runN isD s.data.toList i=N - i/\i<=N):=⟨by omega,by omega⟩
 have HI:Hid (i<=s.size):=hi
 rw [show runN isD s.data.toList i=N - i by omega]
 obtain ⟨X,hX⟩:∃X:List UInt8,X=subT s.data.toList i (N - i):=⟨_,rfl⟩
 have hsl:∀wx,(Instr.slice 9 (.string s) (some (.int .i64 (i:Int))) (some (.int .i64 (N:Int))) none).run Tryz.prog wx=.ok (.string ⟨X.toArray⟩) wx:=fun wx=>by rw [hX];exact run_sub s i N (by omega) HN.out wx
 rw [<-hX,show i+(N - i)=N by omega]
 clear h hN hi hX
 go_enter Tryz.func90,Tryz.ntmps90
 go_wp2
 go_loopw [] (fun wr=>∃j:Nat,i<=j/\j<=N/\RS b s j wr/\w.grownBy wr (some b)) (fun wr=>s.size - placeOf b wr)
 case atStart=>exact ⟨i,Nat.le_refl _,HT.out.2,HR.out,gb_refl _ _⟩
 case round =>
  obtain ⟨j,hij,hjn,hrs,hgb⟩:=hrel
  have d0:=hrs.c0
  have d1:=hrs.c1
  have df:=hrs.f1
  have HRS:Hid (RS b s j wr):=hrs
  have HGB:Hid (w.grownBy wr (some b)):=hgb
  have hns:=HN.out
  clear hrs hgb h0 h1
  by_cases hlt:j < N
  ·have hjs:j < s.size:=by omega
   have hD:isD s[j]=true:=HA.out j hij hjs hlt
   have HK:Hid (i<=j/\j < N):=⟨hij,hlt⟩
   clear hlt hjn hns hij
   have hlt2:(j:Int) < (s.size:Int):=by omega
   go_wp2
   go_quiet (first | (go_at_call 138;exact Calls.quiet_of_same (isDigit_any _ _)))
   go_wp2
   go_roundw
   case rel =>
    have:=HK.out
    exact ⟨j+1,by omega,by omega,(HRS.out.drew _).set (j+1),gb_set (gb_drew HGB.out _) _ _⟩
   case measure =>
    have e1:=HRS.out.place
    have e2:=((HRS.out.drew nq).set (j+1)).place
    rw [e1]
    exact Nat.lt_of_le_of_lt (Nat.le_of_eq (congrArg (s.size - ·) e2)) (by omega)
  ·have hjN:j=N:=by omega
   subst hjN
   by_cases hjs:j < s.size
   ·have hD:isD s[j]=false:=HS.out hjs
    have hlt2:(j:Int) < (s.size:Int):=by omega
    clear hlt hjn hns hij
    go_wp2
    go_quiet (first | (go_at_call 138;exact Calls.quiet_of_same (isDigit_any _ _)))
    go_wp2
    obtain ⟨W,hW⟩:∃W,wr.drewN nq=W:=⟨_,rfl⟩
    have e0:W.cell? ⟨b,0,none⟩=some (.string s):=by rw [<-hW];exact d0
    have e1:W.cell? ⟨b,1,none⟩=some (.int .i64 (j:Int)):=by rw [<-hW];exact d1
    have HW:Hid (RS b s j W/\w.grownBy W (some b)):=by
     show RS b s j W/\w.grownBy W (some b)
     rw [<-hW];exact ⟨HRS.out.drew _,gb_drew HGB.out _⟩
    rw [hW]
    clear hW d0 d1 df HRS HGB
    go_quiet (fail)
    go_wp2
    go_ret
    exact ⟨rfl,HW.out.1.drew _,gb_drew HW.out.2 _⟩
   ·have hd2:decide ((j:Int) < (s.size:Int))=false:=by simp;omega
    clear hlt hjn hns hij
    go_wp2
    go_quiet (fail)
    go_wp2
    obtain ⟨W,hW⟩:∃W,wr.drewN nq=W:=⟨_,rfl⟩
    have e0:W.cell? ⟨b,0,none⟩=some (.string s):=by rw [<-hW];exact d0
    have e1:W.cell? ⟨b,1,none⟩=some (.int .i64 (j:Int)):=by rw [<-hW];exact d1
    have HW:Hid (RS b s j W/\w.grownBy W (some b)):=by
     show RS b s j W/\w.grownBy W (some b)
     rw [<-hW];exact ⟨HRS.out.drew _,gb_drew HGB.out _⟩
    rw [hW]
    clear hW d0 d1 df HRS HGB
    go_quiet (fail)
    go_wp2
    go_ret
    exact ⟨rfl,HW.out.1.drew _,gb_drew HW.out.2 _⟩
set_option maxHeartbeats 800000 in
theorem run_parts (b:Nat) (s:ByteArray) (i:Nat) (w:World) (hi:i<=s.size) (h:RS b s i w) (hs:s.size < 2 ^ 62) :
  Calls Tryz.prog 90 #[.pointer (some ⟨b,0,none⟩),.func (.func 111) #[] #[]] w fun e w'=>e=.returned (.string ⟨(subT s.data.toList i (runN isP s.data.toList i)).toArray⟩)/\RS b s (i+runN isP s.data.toList i) w'/\w.grownBy w' (some b):=by
 have h0:=h.c0
 have h1:=h.c1
 have HR:Hid (RS b s i w):=h
 obtain ⟨N,hN⟩:∃N,i+runN isP s.data.toList i=N:=⟨_,rfl⟩
 have HN:Hid (N<=s.size):=by
  show N<=s.size
  have:=runN_le isP s.data.toList i (by simpa using hi)
  simp at this;omega
 have HA:Hid (∀j,i<=j->(hj:j < s.size)->j < N->isP s[j]=true):=by
  show ∀j,i<=j->(hj:j < s.size)->j < N->isP s[j]=true
  intro j h1 hj h2
  obtain ⟨g1,g2⟩:=runN_at isP s.data.toList i (j - i) (by omega)
  have e:i+(j - i)=j:=by omega
  simp only [e] at g2
  exact g2
 have HS:Hid (∀hj:N < s.size,isP s[N]=false):=by
  show ∀hj:N < s.size,isP s[N]=false
  intro hj
  have:=runN_stop isP s.data.toList i (by rw [hN];simpa using hj)
  simp only [hN] at this
  exact this
 have HT:Hid (runN isP s.data.toList i=N - i/\i<=N):=⟨by omega,by omega⟩
 have HI:Hid (i<=s.size):=hi
 rw [show runN isP s.data.toList i=N - i by omega]
 obtain ⟨X,hX⟩:∃X:List UInt8,X=subT s.data.toList i (N - i):=⟨_,rfl⟩
 have hsl:∀wx,(Instr.slice 9 (.string s) (some (.int .i64 (i:Int))) (some (.int .i64 (N:Int))) none).run Tryz.prog wx=.ok (.string ⟨X.toArray⟩) wx:=fun wx=>by rw [hX];exact run_sub s i N (by omega) HN.out wx
 rw [<-hX,show i+(N - i)=N by omega]
 clear h hN hi hX
 go_enter Tryz.func90,Tryz.ntmps90
 go_wp2
 go_loopw [] (fun wr=>∃j:Nat,i<=j/\j<=N/\RS b s j wr/\w.grownBy wr (some b)) (fun wr=>s.size - placeOf b wr)
 case atStart=>exact ⟨i,Nat.le_refl _,HT.out.2,HR.out,gb_refl _ _⟩
 case round =>
  obtain ⟨j,hij,hjn,hrs,hgb⟩:=hrel
  have d0:=hrs.c0
  have d1:=hrs.c1
  have df:=hrs.f1
  have HRS:Hid (RS b s j wr):=hrs
  have HGB:Hid (w.grownBy wr (some b)):=hgb
  have hns:=HN.out
  clear hrs hgb h0 h1
  by_cases hlt:j < N
  ·have hjs:j < s.size:=by omega
   have hD:isP s[j]=true:=HA.out j hij hjs hlt
   have HK:Hid (i<=j/\j < N):=⟨hij,hlt⟩
   clear hlt hjn hns hij
   have hlt2:(j:Int) < (s.size:Int):=by omega
   go_wp2
   go_quiet (first | (go_at_call 111;exact Calls.quiet_of_same (isPartByte_any _ _)))
   go_wp2
   go_roundw
   case rel =>
    have:=HK.out
    exact ⟨j+1,by omega,by omega,(HRS.out.drew _).set (j+1),gb_set (gb_drew HGB.out _) _ _⟩
   case measure =>
    have e1:=HRS.out.place
    have e2:=((HRS.out.drew nq).set (j+1)).place
    rw [e1]
    exact Nat.lt_of_le_of_lt (Nat.le_of_eq (congrArg (s.size - ·) e2)) (by omega)
  ·have hjN:j=N:=by omega
   subst hjN
   by_cases hjs:j < s.size
   ·have hD:isP s[j]=false:=HS.out hjs
    have hlt2:(j:Int) < (s.size:Int):=by omega
    clear hlt hjn hns hij
    go_wp2
    go_quiet (first | (go_at_call 111;exact Calls.quiet_of_same (isPartByte_any _ _)))
    go_wp2
    obtain ⟨W,hW⟩:∃W,wr.drewN nq=W:=⟨_,rfl⟩
    have e0:W.cell? ⟨b,0,none⟩=some (.string s):=by rw [<-hW];exact d0
    have e1:W.cell? ⟨b,1,none⟩=some (.int .i64 (j:Int)):=by rw [<-hW];exact d1
    have HW:Hid (RS b s j W/\w.grownBy W (some b)):=by
     show RS b s j W/\w.grownBy W (some b)
     rw [<-hW];exact ⟨HRS.out.drew _,gb_drew HGB.out _⟩
    rw [hW]
    clear hW d0 d1 df HRS HGB
    go_quiet (fail)
    go_wp2
    go_ret
    exact ⟨rfl,HW.out.1.drew _,gb_drew HW.out.2 _⟩
   ·have hd2:decide ((j:Int) < (s.size:Int))=false:=by simp;omega
    clear hlt hjn hns hij
    go_wp2
    go_quiet (fail)
    go_wp2
    obtain ⟨W,hW⟩:∃W,wr.drewN nq=W:=⟨_,rfl⟩
    have e0:W.cell? ⟨b,0,none⟩=some (.string s):=by rw [<-hW];exact d0
    have e1:W.cell? ⟨b,1,none⟩=some (.int .i64 (j:Int)):=by rw [<-hW];exact d1
    have HW:Hid (RS b s j W/\w.grownBy W (some b)):=by
     show RS b s j W/\w.grownBy W (some b)
     rw [<-hW];exact ⟨HRS.out.drew _,gb_drew HGB.out _⟩
    rw [hW]
    clear hW d0 d1 df HRS HGB
    go_quiet (fail)
    go_wp2
    go_ret
    exact ⟨rfl,HW.out.1.drew _,gb_drew HW.out.2 _⟩
open Go.RowKit
theorem emp_t2 {a:ByteArray} (h:a.size=0):a.toList.isEmpty=true:=by
 rw [Lib.toList_data,List.isEmpty_iff];exact List.length_eq_zero_iff.1 (by simpa using h)
theorem emp_f2 {a:ByteArray} (h:a.size ≠ 0):a.toList.isEmpty=false:=by
 rw [Lib.toList_data]
 cases hl:a.data.toList with
 | nil=>exact absurd (show a.size=0 from by show a.data.size=0;rw [<-Array.length_toList,hl];rfl) h
 | cons c l=>rfl
theorem RS.grow {b:Nat} {s:ByteArray} {i:Nat} {w w':World} (h:RS b s i w) (hg:w.grownBy w' none):RS b s i w':=by
 obtain ⟨t,h⟩:=h
 exact ⟨t,by rw [hg.block b ((Array.getElem?_eq_some_iff.1 h).1) (by simp)];exact h⟩
set_option maxHeartbeats 400000 in
theorem needless_any (s:ByteArray) (w:World):Calls Tryz.prog 113 #[.string s] w fun e w'=>e=.returned (.bool (decide (1 < s.data.toList.length) && decide (s.data.toList[0]?=some 48)))/\w'=w:=by
 by_cases h1:1 < s.size
 ·have h0:0 < s.size:=by omega
  have hl:decide (1 < s.data.toList.length)=true:=by simp;exact h1
  rw [hl,Bool.true_and,get_data s 0 h0]
  cases hz:((s[0].toNat:Int) == 48) with
  | true =>
   have hc:s[0]=48:=UInt8.toNat_inj.1 (by have:=eq_of_beq hz;have e48:(48:UInt8).toNat=48:=rfl;omega)
   have HZ:Hid (decide (some s[0]=some (48:UInt8))=true):=by show decide _=true;rw [hc];rfl
   rw [HZ.out]
   clear hc hl
   go_enter Tryz.func113,Tryz.ntmps113
   go_wp2
   go_ret
   exact ⟨rfl,rfl⟩
  | false =>
   have HZ:Hid (decide (some s[0]=some (48:UInt8))=false):=by
    show decide _=false
    apply decide_eq_false
    intro e
    rw [Option.some.inj e] at hz
    exact absurd hz (by decide)
   rw [HZ.out]
   clear hl
   go_enter Tryz.func113,Tryz.ntmps113
   go_wp2
   go_ret
   exact ⟨rfl,rfl⟩
 ·have hl:decide (1 < s.data.toList.length)=false:=by simp;exact Nat.le_of_not_lt h1
  rw [hl,Bool.false_and]
  clear hl
  go_enter Tryz.func113,Tryz.ntmps113
  go_wp2
  go_ret
  exact ⟨rfl,rfl⟩
set_option maxHeartbeats 1600000 in
theorem skipP (b:Nat) (s:ByteArray) (i:Nat) (w:World) (hi:i<=s.size) (h:RS b s i w) (hs:s.size < 2 ^ 62) :
  Calls Tryz.prog 96 #[.pointer (some ⟨b,0,none⟩),.int .i64 0] w fun e w'=>e=.returned (.int .i64 (rdParts true s.data.toList i).1)/\RS b s (rdParts true s.data.toList i).2 w'/\w.grownBy w' (some b):=by
 have HI:Hid (RS b s i w/\i<=s.size):=⟨h,hi⟩
 obtain ⟨E,Q,hEQ⟩:∃E Q,rdParts true s.data.toList i=(E,Q):=⟨_,_,rfl⟩
 rw [hEQ]
 have HEQ:Hid (rdParts true s.data.toList i=(E,Q)):=hEQ
 have hsl:s.data.toList.length=s.size:=by simp
 have HSL:Hid (s.data.toList.length=s.size):=hsl
 clear h hi hEQ hsl
 go_enter Tryz.func96,Tryz.ntmps96
 go_wp2
 go_loopw [] (fun wr=>∃j:Nat,j<=s.size/\RS b s j wr/\w.grownBy wr (some b)/\rdParts true s.data.toList j=(E,Q)) (fun wr=>s.size - placeOf b wr)
 case atStart=>exact ⟨i,HI.out.2,HI.out.1,gb_refl _ _,HEQ.out⟩
 case round =>
  obtain ⟨j,hj,hrs,hgb,hrd⟩:=hrel
  have CR:Hid (Calls Tryz.prog 90 #[.pointer (some ⟨b,0,none⟩),.func (.func 111) #[] #[]] wr fun e w'=>e=.returned (.string ⟨(subT s.data.toList j (runN isP s.data.toList j)).toArray⟩)/\RS b s (j+runN isP s.data.toList j) w'/\wr.grownBy w' (some b)):=run_parts b s j wr hj hrs hs
  have HPL:Hid (placeOf b wr=j):=hrs.place
  have d1:=hrs.c1
  have hle:j+runN isP s.data.toList j<=s.size:=by have:=runN_le isP s.data.toList j (by rw [HSL.out];exact hj);rw [HSL.out] at this;exact this
  have hln:=sub_len s.data.toList j (runN isP s.data.toList j) (by rw [HSL.out];exact hle)
  rw [rdParts_eq] at hrd
  obtain ⟨k,hk⟩:∃k,runN isP s.data.toList j=k:=⟨_,rfl⟩
  rw [hk] at CR hrd hle hln
  obtain ⟨T,hT⟩:∃T,subT s.data.toList j k=T:=⟨_,rfl⟩
  rw [hT] at CR hrd hln
  obtain ⟨X,hX⟩:∃X:ByteArray,X=⟨T.toArray⟩:=⟨_,rfl⟩
  rw [<-hX] at CR
  have HXd:Hid (X.data.toList=T):=by show X.data.toList=T;rw [hX]
  have hXs:X.size=k:=by rw [hX];show T.toArray.size=k;simpa using hln
  have HGB:Hid (w.grownBy wr (some b)):=hgb
  have HRS:Hid (RS b s j wr):=hrs
  have HRD:Hid ((if k=0 then (2,j) else if badZ true T=true then (2,j) else if s.data.toList[j+k]?=some 46 then rdParts true s.data.toList (j+k+1) else (0,j+k))=(E,Q)):=hrd
  clear hk hT hX hgb hrs hrd hln
  by_cases hk0:k=0
  ·have e1:=emp_t2 (hXs.trans hk0)
   have HZ:Hid (E=2/\Q=j):=by
    have:=HRD.out
    rw [if_pos hk0] at this
    exact ⟨(congrArg Prod.fst this).symm,(congrArg Prod.snd this).symm⟩
   have HK:Hid (k=0):=hk0
   clear hk0 hXs hle
   go_wp2_with (go_at_call 90;refine CR.out.mono ?_)
   rintro e w1 ⟨rfl,hr1,hg1⟩
   have HF:Hid (RS b s Q w1/\w.grownBy w1 (some b)):=by
    refine ⟨?_,gb_trans HGB.out hg1⟩
    rw [HZ.out.2];rw [HK.out] at hr1;exact hr1
   clear hr1 hg1
   go_wp2
   go_ret
   exact ⟨ret_int HZ.out.1.symm,HF.out.1,HF.out.2⟩
  ·have e1:=emp_f2 (fun h=>hk0 (hXs.symm.trans h))
   have HNE:Hid (X.data.toList.isEmpty=false):=by show X.data.toList.isEmpty=false;rw [<-Lib.toList_data];exact e1
   have HK:Hid (¬ k=0):=hk0
   have hXb:X.size < 2 ^ 62:=by omega
   have HLE:Hid (j+k<=s.size):=hle
   clear hk0 hXs hle
   go_wp2_with (go_at_call 90;refine CR.out.mono ?_)
   rintro e w1 ⟨rfl,hr1,hg1⟩
   have HR1:Hid (RS b s (j+k) w1):=hr1
   have HG1:Hid (w.grownBy w1 (some b)):=gb_trans HGB.out hg1
   clear hr1 hg1
   have CD:Hid (∀w,Calls Tryz.prog 112 #[.string X] w fun e w'=>e=.returned (.bool (numT X.data.toList))/\w.grownBy w' none):=fun w=>isDigits_any X w hXb
   obtain ⟨dX,hdX⟩:∃d,numT X.data.toList=d:=⟨_,rfl⟩
   rw [hdX] at CD
   have HDX:Hid (T.all isD=dX):=by
    show T.all isD=dX
    rw [<-hdX];unfold numT;rw [HNE.out,HXd.out];rfl
   obtain ⟨z,hz⟩:∃z,(decide (1 < X.data.toList.length) && decide (X.data.toList[0]?=some 48))=z:=⟨_,rfl⟩
   have CZ:Hid (∀w,Calls Tryz.prog 113 #[.string X] w fun e w'=>e=.returned (.bool z)/\w'=w):=fun w=>by rw [<-hz];exact needless_any X w
   have HBZ:Hid (badZ true T=(dX && z)):=by
    show badZ true T=_
    rw [<-hz,<-HDX.out,HXd.out];rfl
   clear hdX hz
   go_wp2_with (go_at_call 112;refine (CD.out _).mono ?_)
   rintro e w2 ⟨rfl,hg2⟩
   replace HR1:Hid (RS b s (j+k) w2):=HR1.out.grow hg2
   replace HG1:Hid (w.grownBy w2 (some b)):=gb_trans HG1.out (gb_weak hg2 _)
   clear hg2
   cases dX with
   | false =>
    have HB:Hid (badZ true T=false):=by show badZ true T=false;rw [HBZ.out];rfl
    cases hc:decide (s.data.toList[j+k]?=some 46) with
    | true =>
     have hc':=of_decide_eq_true hc
     have HT:Hid (rdParts true s.data.toList (j+k+1)=(E,Q)):=by
      have:=HRD.out
      rw [if_neg HK.out,if_neg (by rw [HB.out];simp),if_pos hc'] at this
      exact this
     have CT:Hid (Calls Tryz.prog 60 #[.pointer (some ⟨b,0,none⟩),.string ⟨#[46]⟩] w2 fun e w'=>e=.returned (.bool true)/\RS b s (j+k+1) w'/\w2.grownBy w' (some b)):=take_yes b s (j+k) 46 w2 hc' HR1.out hs
     have HLT:Hid (j+k < s.size):=by have:=(List.getElem?_eq_some_iff.1 hc').1;rw [HSL.out] at this;exact this
     clear hc hc'
     go_wp2_with (first | (go_at_call 60;refine CT.out.mono ?_))
     rintro e w3 ⟨rfl,hr3,hg3⟩
     have HF:Hid (RS b s (j+k+1) w3/\w.grownBy w3 (some b)):=⟨hr3,gb_trans HG1.out hg3⟩
     clear hr3 hg3
     go_wp2
     go_roundw
     case rel=>exact ⟨j+k+1,HLT.out,HF.out.1,HF.out.2,HT.out⟩
     case measure =>
      rw [HPL.out,HF.out.1.place]
      have:=HLT.out
      omega
    | false =>
     have hc':=of_decide_eq_false hc
     have HT:Hid (E=0/\Q=j+k):=by
      have:=HRD.out
      rw [if_neg HK.out,if_neg (by rw [HB.out];simp),if_neg hc'] at this
      exact ⟨(congrArg Prod.fst this).symm,(congrArg Prod.snd this).symm⟩
     have CT:Hid (Calls Tryz.prog 60 #[.pointer (some ⟨b,0,none⟩),.string ⟨#[46]⟩] w2 fun e w'=>e=.returned (.bool false)/\RS b s (j+k) w'/\w2.grownBy w' (some b)):=take_no b s (j+k) 46 w2 HLE.out hc' HR1.out hs
     clear hc hc'
     go_wp2_with (first | (go_at_call 60;refine CT.out.mono ?_))
     rintro e w3 ⟨rfl,hr3,hg3⟩
     have HF:Hid (RS b s (j+k) w3/\w.grownBy w3 (some b)):=⟨hr3,gb_trans HG1.out hg3⟩
     clear hr3 hg3
     go_wp2
     go_ret
     exact ⟨ret_int HT.out.1.symm,by rw [HT.out.2];exact HF.out.1,HF.out.2⟩
   | true =>
    cases z with
    | true =>
     have HZ:Hid (E=2/\Q=j):=by
      have:=HRD.out
      rw [if_neg HK.out,if_pos (by rw [HBZ.out];rfl)] at this
      exact ⟨(congrArg Prod.fst this).symm,(congrArg Prod.snd this).symm⟩
     have f1:=HR1.out.c1
     have f2:=HR1.out.f1
     go_wp2_with (first | (go_at_call 113;refine (CZ.out _).mono ?_;rintro e w' ⟨rfl,rfl⟩))
     go_ret
     exact ⟨ret_int HZ.out.1.symm,by rw [HZ.out.2];exact HR1.out.set j,gb_set HG1.out _ _⟩
    | false =>
     have HB:Hid (badZ true T=false):=by show badZ true T=false;rw [HBZ.out];rfl
     cases hc:decide (s.data.toList[j+k]?=some 46) with
     | true =>
      have hc':=of_decide_eq_true hc
      have HT:Hid (rdParts true s.data.toList (j+k+1)=(E,Q)):=by
       have:=HRD.out
       rw [if_neg HK.out,if_neg (by rw [HB.out];simp),if_pos hc'] at this
       exact this
      have CT:Hid (Calls Tryz.prog 60 #[.pointer (some ⟨b,0,none⟩),.string ⟨#[46]⟩] w2 fun e w'=>e=.returned (.bool true)/\RS b s (j+k+1) w'/\w2.grownBy w' (some b)):=take_yes b s (j+k) 46 w2 hc' HR1.out hs
      have HLT:Hid (j+k < s.size):=by have:=(List.getElem?_eq_some_iff.1 hc').1;rw [HSL.out] at this;exact this
      clear hc hc'
      go_wp2_with (first | (go_at_call 113;refine (CZ.out _).mono ?_;rintro e w' ⟨rfl,rfl⟩) | (go_at_call 60;refine CT.out.mono ?_))
      rintro e w3 ⟨rfl,hr3,hg3⟩
      have HF:Hid (RS b s (j+k+1) w3/\w.grownBy w3 (some b)):=⟨hr3,gb_trans HG1.out hg3⟩
      clear hr3 hg3
      go_wp2
      go_roundw
      case rel=>exact ⟨j+k+1,HLT.out,HF.out.1,HF.out.2,HT.out⟩
      case measure =>
       rw [HPL.out,HF.out.1.place]
       have:=HLT.out
       omega
     | false =>
      have hc':=of_decide_eq_false hc
      have HT:Hid (E=0/\Q=j+k):=by
       have:=HRD.out
       rw [if_neg HK.out,if_neg (by rw [HB.out];simp),if_neg hc'] at this
       exact ⟨(congrArg Prod.fst this).symm,(congrArg Prod.snd this).symm⟩
      have CT:Hid (Calls Tryz.prog 60 #[.pointer (some ⟨b,0,none⟩),.string ⟨#[46]⟩] w2 fun e w'=>e=.returned (.bool false)/\RS b s (j+k) w'/\w2.grownBy w' (some b)):=take_no b s (j+k) 46 w2 HLE.out hc' HR1.out hs
      clear hc hc'
      go_wp2_with (first | (go_at_call 113;refine (CZ.out _).mono ?_;rintro e w' ⟨rfl,rfl⟩) | (go_at_call 60;refine CT.out.mono ?_))
      rintro e w3 ⟨rfl,hr3,hg3⟩
      have HF:Hid (RS b s (j+k) w3/\w.grownBy w3 (some b)):=⟨hr3,gb_trans HG1.out hg3⟩
      clear hr3 hg3
      go_wp2
      go_ret
      exact ⟨ret_int HT.out.1.symm,by rw [HT.out.2];exact HF.out.1,HF.out.2⟩
set_option maxHeartbeats 1600000 in
theorem skipB (b:Nat) (s:ByteArray) (i:Nat) (w:World) (hi:i<=s.size) (h:RS b s i w) (hs:s.size < 2 ^ 62) :
  Calls Tryz.prog 96 #[.pointer (some ⟨b,0,none⟩),.int .i64 1] w fun e w'=>e=.returned (.int .i64 (rdParts false s.data.toList i).1)/\RS b s (rdParts false s.data.toList i).2 w'/\w.grownBy w' (some b):=by
 have HI:Hid (RS b s i w/\i<=s.size):=⟨h,hi⟩
 obtain ⟨E,Q,hEQ⟩:∃E Q,rdParts false s.data.toList i=(E,Q):=⟨_,_,rfl⟩
 rw [hEQ]
 have HEQ:Hid (rdParts false s.data.toList i=(E,Q)):=hEQ
 have hsl:s.data.toList.length=s.size:=by simp
 have HSL:Hid (s.data.toList.length=s.size):=hsl
 clear h hi hEQ hsl
 go_enter Tryz.func96,Tryz.ntmps96
 go_wp2
 go_loopw [] (fun wr=>∃j:Nat,j<=s.size/\RS b s j wr/\w.grownBy wr (some b)/\rdParts false s.data.toList j=(E,Q)) (fun wr=>s.size - placeOf b wr)
 case atStart=>exact ⟨i,HI.out.2,HI.out.1,gb_refl _ _,HEQ.out⟩
 case round =>
  obtain ⟨j,hj,hrs,hgb,hrd⟩:=hrel
  have CR:Hid (Calls Tryz.prog 90 #[.pointer (some ⟨b,0,none⟩),.func (.func 111) #[] #[]] wr fun e w'=>e=.returned (.string ⟨(subT s.data.toList j (runN isP s.data.toList j)).toArray⟩)/\RS b s (j+runN isP s.data.toList j) w'/\wr.grownBy w' (some b)):=run_parts b s j wr hj hrs hs
  have HPL:Hid (placeOf b wr=j):=hrs.place
  have d1:=hrs.c1
  have hle:j+runN isP s.data.toList j<=s.size:=by have:=runN_le isP s.data.toList j (by rw [HSL.out];exact hj);rw [HSL.out] at this;exact this
  have hln:=sub_len s.data.toList j (runN isP s.data.toList j) (by rw [HSL.out];exact hle)
  rw [rdParts_eq] at hrd
  obtain ⟨k,hk⟩:∃k,runN isP s.data.toList j=k:=⟨_,rfl⟩
  rw [hk] at CR hrd hle hln
  obtain ⟨T,hT⟩:∃T,subT s.data.toList j k=T:=⟨_,rfl⟩
  rw [hT] at CR hrd hln
  obtain ⟨X,hX⟩:∃X:ByteArray,X=⟨T.toArray⟩:=⟨_,rfl⟩
  rw [<-hX] at CR
  have HXd:Hid (X.data.toList=T):=by show X.data.toList=T;rw [hX]
  have hXs:X.size=k:=by rw [hX];show T.toArray.size=k;simpa using hln
  have HGB:Hid (w.grownBy wr (some b)):=hgb
  have HRS:Hid (RS b s j wr):=hrs
  have HRD:Hid ((if k=0 then (2,j) else if badZ false T=true then (2,j) else if s.data.toList[j+k]?=some 46 then rdParts false s.data.toList (j+k+1) else (0,j+k))=(E,Q)):=hrd
  clear hk hT hX hgb hrs hrd hln
  by_cases hk0:k=0
  ·have e1:=emp_t2 (hXs.trans hk0)
   have HZ:Hid (E=2/\Q=j):=by
    have:=HRD.out
    rw [if_pos hk0] at this
    exact ⟨(congrArg Prod.fst this).symm,(congrArg Prod.snd this).symm⟩
   have HK:Hid (k=0):=hk0
   clear hk0 hXs hle
   go_wp2_with (go_at_call 90;refine CR.out.mono ?_)
   rintro e w1 ⟨rfl,hr1,hg1⟩
   have HF:Hid (RS b s Q w1/\w.grownBy w1 (some b)):=by
    refine ⟨?_,gb_trans HGB.out hg1⟩
    rw [HZ.out.2];rw [HK.out] at hr1;exact hr1
   clear hr1 hg1
   go_wp2
   go_ret
   exact ⟨ret_int HZ.out.1.symm,HF.out.1,HF.out.2⟩
  ·have e1:=emp_f2 (fun h=>hk0 (hXs.symm.trans h))
   have HNE:Hid (X.data.toList.isEmpty=false):=by show X.data.toList.isEmpty=false;rw [<-Lib.toList_data];exact e1
   have HK:Hid (¬ k=0):=hk0
   have hXb:X.size < 2 ^ 62:=by omega
   have HLE:Hid (j+k<=s.size):=hle
   clear hk0 hXs hle
   go_wp2_with (go_at_call 90;refine CR.out.mono ?_)
   rintro e w1 ⟨rfl,hr1,hg1⟩
   have HR1:Hid (RS b s (j+k) w1):=hr1
   have HG1:Hid (w.grownBy w1 (some b)):=gb_trans HGB.out hg1
   clear hr1 hg1
   have HB:Hid (badZ false T=false):=rfl
   cases hc:decide (s.data.toList[j+k]?=some 46) with
   | true =>
    have hc':=of_decide_eq_true hc
    have HT:Hid (rdParts false s.data.toList (j+k+1)=(E,Q)):=by
     have:=HRD.out
     rw [if_neg HK.out,if_neg (by rw [HB.out];simp),if_pos hc'] at this
     exact this
    have CT:Hid (Calls Tryz.prog 60 #[.pointer (some ⟨b,0,none⟩),.string ⟨#[46]⟩] w1 fun e w'=>e=.returned (.bool true)/\RS b s (j+k+1) w'/\w1.grownBy w' (some b)):=take_yes b s (j+k) 46 w1 hc' HR1.out hs
    have HLT:Hid (j+k < s.size):=by have:=(List.getElem?_eq_some_iff.1 hc').1;rw [HSL.out] at this;exact this
    clear hc hc'
    go_wp2_with (first | (go_at_call 60;refine CT.out.mono ?_))
    rintro e w3 ⟨rfl,hr3,hg3⟩
    have HF:Hid (RS b s (j+k+1) w3/\w.grownBy w3 (some b)):=⟨hr3,gb_trans HG1.out hg3⟩
    clear hr3 hg3
    go_wp2
    go_roundw
    case rel=>exact ⟨j+k+1,HLT.out,HF.out.1,HF.out.2,HT.out⟩
    case measure =>
     rw [HPL.out,HF.out.1.place]
     have:=HLT.out
     omega
   | false =>
    have hc':=of_decide_eq_false hc
    have HT:Hid (E=0/\Q=j+k):=by
     have:=HRD.out
     rw [if_neg HK.out,if_neg (by rw [HB.out];simp),if_neg hc'] at this
     exact ⟨(congrArg Prod.fst this).symm,(congrArg Prod.snd this).symm⟩
    have CT:Hid (Calls Tryz.prog 60 #[.pointer (some ⟨b,0,none⟩),.string ⟨#[46]⟩] w1 fun e w'=>e=.returned (.bool false)/\RS b s (j+k) w'/\w1.grownBy w' (some b)):=take_no b s (j+k) 46 w1 HLE.out hc' HR1.out hs
    clear hc hc'
    go_wp2_with (first | (go_at_call 60;refine CT.out.mono ?_))
    rintro e w3 ⟨rfl,hr3,hg3⟩
    have HF:Hid (RS b s (j+k) w3/\w.grownBy w3 (some b)):=⟨hr3,gb_trans HG1.out hg3⟩
    clear hr3 hg3
    go_wp2
    go_ret
    exact ⟨ret_int HT.out.1.symm,by rw [HT.out.2];exact HF.out.1,HF.out.2⟩
end Go.Proofs.YtonfldbigenfhaaGreatDoor
