import Derived.Test.YtiinliaoojfjaaaGreatDoorF01
import Derived.Test.YtiinliaoojfjaaaGreatDoorF03
set_option linter.all false
set_option maxRecDepth 100000
set_option maxHeartbeats 0
open Go.Proofs.Tryz
namespace Go.Proofs.YtiinliaoojfjaaaGreatDoor
open Go.RowKit
theorem Rt(c:UInt8)(w:World):Calls prog 198 #[.int .u8 (c.toNat:Int)] w fun e w'=>e=.returned (.bool (aT c))/\w'=w:=by
 go_enter func198,ntmps198;go_wp2_with (go_at_call 179;refine(yM _ _).mono ?_;rintro e w' ⟨rfl,rfl⟩)
 all_goals go_ret
 all_goals (refine⟨bi ?_,rfl⟩;rw[Bool.eq_iff_iff];unfold aT;simp_all;try omega)
def RS(b:Nat)(s:ByteArray)(i:Nat)(w:World):Prop:=∃t,w.heap[b]?=some (.cells #[.string s,.int .i64 (i:Int)] t (0,0))
theorem RS.c0{b:Nat}{s:ByteArray}{i:Nat}{w:World}(h:RS b s i w):w.cell? ⟨b,0,none⟩=some (.string s):=by obtain⟨t,h⟩:=h;rw[ah h];rfl
theorem RS.c1{b:Nat}{s:ByteArray}{i:Nat}{w:World}(h:RS b s i w):w.cell? ⟨b,1,none⟩=some (.int .i64 (i:Int)):=by obtain⟨t,h⟩:=h;rw[ah h];rfl
theorem RS.f1{b:Nat}{s:ByteArray}{i:Nat}{w:World}(h:RS b s i w):w.frozen? ⟨b,1,none⟩=false:=by obtain⟨t,h⟩:=h;exact Lib.frozen_of_heap h 1
theorem RS.drew{b:Nat}{s:ByteArray}{i:Nat}{w:World}(h:RS b s i w)(n:Nat):RS b s i (w.drewN n):=h
theorem RS.set{b:Nat}{s:ByteArray}{i:Nat}{w:World}(h:RS b s i w)(j:Nat):RS b s j (w.setCell ⟨b,1,none⟩ (.int .i64 (j:Int))):=by
 obtain⟨t,h⟩:=h;exact⟨t,by simp[World.setCell,Array.getElem?_modify,h]⟩
theorem aa5(s p:ByteArray)(w:World) :
  Calls prog 190 #[.string s,.string p] w fun e w'=>e=.returned (.bool (Lib.hasPrefix s.data.toList p.data.toList))/\w'=w:=Any.strings_HasPrefix Tryz.lays99 s p w
theorem next_any(b:Nat)(s t:ByteArray)(i:Nat)(w:World)(hi:i<=s.size)(h:RS b s i w) :
  Calls prog 169 #[.pointer (some ⟨b,0,none⟩),.string t] w fun e w'=>e=.returned (.bool (Lib.hasPrefix (s.data.toList.drop i) t.data.toList))/\∃n,w'=w.drewN n:=by
 have h0:=h.c0;have h1:=h.c1;obtain⟨X,hX⟩:∃X:ByteArray,X=⟨(s.data.toList.drop i).toArray⟩:=⟨_,rfl⟩;have sl:∀wx,(Instr.slice 9 (.string s) (some (.int .i64 (i:Int))) none none).run prog wx=.ok (.string X) wx:=fun wx=>by rw[hX];exact J6 s i hi wx
 obtain⟨p,hp⟩:=zN (Lib.hasPrefix (s.data.toList.drop i) t.data.toList);have CP:Hd (∀w,Calls prog 190 #[.string X,.string t] w fun e w'=>e=.returned (.bool p)/\w'=w):=fun w=>by
  rw[<-hp];have:=aa5 X t w;rw[hX]at this ⊢;exact this
 rw[hp];clear h hX hp hi;go_enter func169,ntmps169;go_wp2;go_quiet (first|(go_at_call 190;exact Calls.quiet_of_same (CP.o _)));go_wp2;go_ret;exact⟨rfl,_,rfl⟩
theorem take_any(b:Nat)(s t:ByteArray)(i:Nat)(w:World)(hi:i<=s.size)(h:RS b s i w)(hs:s.size<2 ^ 62)(ht:t.size<2 ^ 62) :
  Calls prog 148 #[.pointer (some ⟨b,0,none⟩),.string t] w fun e w'=>e=.returned (.bool (Lib.hasPrefix (s.data.toList.drop i) t.data.toList))/\RS b s (if Lib.hasPrefix (s.data.toList.drop i) t.data.toList then i+t.size else i) w'/\w.grownBy w' (some b):=by
 obtain⟨p,hp⟩:=zN (Lib.hasPrefix (s.data.toList.drop i) t.data.toList);have CN:Hd (Calls prog 169 #[.pointer (some ⟨b,0,none⟩),.string t] w fun e w'=>e=.returned (.bool p)/\∃n,w'=w.drewN n):=by
  show Calls _ _ _ _ _;rw[<-hp];exact next_any b s t i w hi h
 rw[hp];have HR:=ae h;have hw:IntKind.i64.wrap ((i:Int)+(t.size:Int))=((i+t.size:Nat):Int):=by rw[IntKind.wrap_i64];omega
 clear hp h hs ht hi
 cases p with
 | true =>
  go_enter func148,ntmps148;go_wp2_with (go_at_call 169;refine CN.o.mono ?_);rintro e w1 ⟨rfl,n,hn⟩;have HR1:Hd (RS b s i w1):=by show RS b s i w1;rw[hn];exact HR.o.drew n
  have bg:Hd (w.grownBy w1 (some b)):=by show w.grownBy w1 (some b);rw[hn];exact aH (ai w _) n
  have d1:=HR1.o.c1;have df:=HR1.o.f1;clear hn;go_wp2;go_ret;exact⟨rfl,HR1.o.set (i+t.size),bI bg.o _ _⟩
 | false =>
  go_enter func148,ntmps148;go_wp2_with (go_at_call 169;refine CN.o.mono ?_);rintro e w1 ⟨rfl,n,hn⟩;have HR1:Hd (RS b s i w1):=by show RS b s i w1;rw[hn];exact HR.o.drew n
  have bg:Hd (w.grownBy w1 (some b)):=by show w.grownBy w1 (some b);rw[hn];exact aH (ai w _) n
  clear hn;go_wp2;go_ret;exact⟨rfl,HR1.o,bg.o⟩
theorem Hf(b:Nat)(s:ByteArray)(i:Nat)(w:World)(h:RS b s i w) :
  Calls prog 132 #[.pointer (some ⟨b,0,none⟩)] w fun e w'=>e=.returned (.bool (decide (i=s.size)))/\∃n,w'=w.drewN n:=by
 have h0:=h.c0;have h1:=h.c1;clear h
 by_cases hc:i=s.size
 ·have hd:((i:Int) == (s.size:Int))=true:=by simp;omega
  have HD:=ae (decide_eq_true hc);rw[HD.o];clear hc;go_enter func132,ntmps132;go_wp2;go_quiet (fail);go_wp2;go_ret;exact⟨rfl,_,rfl⟩
 ·have hd:((i:Int) == (s.size:Int))=false:=by simp;omega
  have HD:=ae (decide_eq_false hc);rw[HD.o];clear hc;go_enter func132,ntmps132;go_wp2;go_quiet (fail);go_wp2;go_ret;exact⟨rfl,_,rfl⟩
theorem qO(l:List UInt8)(i:Nat)(c:UInt8):Lib.hasPrefix (l.drop i) [c]=decide (l[i]?=some c):=by
 have e:l[i]?=(l.drop i)[0]?:=by rw[List.getElem?_drop];rfl
 rw[e]
 cases l.drop i with
 | nil=>rfl
 | cons x r =>
  show(c == x && true)=decide (some x=some c);rw[Bool.and_true]
  by_cases h:x=c
  ·subst h;rw[decide_eq_true rfl];exact beq_self_eq_true x
  ·rw[decide_eq_false (fun e=>h (Option.some.inj e))];exact beq_eq_false_iff_ne.2 (fun e=>h e.symm)
theorem ug(b:Nat)(s:ByteArray)(i:Nat)(c:UInt8)(w:World)(hc:s.data.toList[i]?=some c)(h:RS b s i w)(hs:s.size<2 ^ 62) :
  Calls prog 148 #[.pointer (some ⟨b,0,none⟩),.string ⟨#[c]⟩] w fun e w'=>e=.returned (.bool true)/\RS b s (i+1) w'/\w.grownBy w' (some b):=by
 have hlt:i<s.size:=by have:=(List.getElem?_eq_some_iff.1 hc).1;simpa using this
 have:=take_any b s ⟨#[c]⟩ i w (Nat.le_of_lt hlt) h hs (by show 1 < _;decide);rw[show(ByteArray.mk #[c]).data.toList=[c] from rfl,qO,decide_eq_true hc]at this;exact this
theorem pX(b:Nat)(s:ByteArray)(i:Nat)(c:UInt8)(w:World)(hi:i<=s.size)(hc:¬s.data.toList[i]?=some c)(h:RS b s i w)(hs:s.size<2 ^ 62) :
  Calls prog 148 #[.pointer (some ⟨b,0,none⟩),.string ⟨#[c]⟩] w fun e w'=>e=.returned (.bool false)/\RS b s i w'/\w.grownBy w' (some b):=by
 have:=take_any b s ⟨#[c]⟩ i w hi h hs (by show 1 < _;decide);rw[show(ByteArray.mk #[c]).data.toList=[c] from rfl,qO,decide_eq_false hc]at this;exact this
open Go.RowKit
def placeOf(b:Nat)(w:World):Nat:=match w.cell? ⟨b,1,none⟩ with|some (.int .i64 x)=>x.toNat|_=>0
theorem RS.place{b:Nat}{s:ByteArray}{i:Nat}{w:World}(h:RS b s i w):placeOf b w=i:=by unfold placeOf;rw[h.c1];simp
theorem aa6(b:Nat)(s:ByteArray)(i:Nat)(w:World)(hi:i<=s.size)(h:RS b s i w)(hs:s.size<2 ^ 62) :
  Calls prog 173 #[.pointer (some ⟨b,0,none⟩),.func (.func 179) #[] #[]] w fun e w'=>e=.returned (.string ⟨(aO s.data.toList i (runN aP s.data.toList i)).toArray⟩)/\RS b s (i+runN aP s.data.toList i) w'/\w.grownBy w' (some b):=by
 have h0:=h.c0;have h1:=h.c1;have HR:=ae h;obtain⟨N,hN⟩:=zN (i+runN aP s.data.toList i);have HN:Hd (N<=s.size):=by
  show N<=s.size;have:=mG aP s.data.toList i (by simpa using hi);simp at this;omega
 have HA:Hd (∀j,i<=j->(hj:j<s.size)->j<N->aP s[j]=true):=by
  show ∀j,i<=j->(hj:j<s.size)->j<N->aP s[j]=true;intro j h1 hj h2;obtain⟨g1,g2⟩:=Az aP s.data.toList i (j-i) (by omega);have e:i+(j-i)=j:=by omega
  simp only[e]at g2;exact g2
 have HS:Hd (∀hj:N<s.size,aP s[N]=false):=by
  show ∀hj:N<s.size,aP s[N]=false;intro hj;have:=uZ aP s.data.toList i (by rw[hN];simpa using hj);simp only[hN]at this;exact this
 have HT:Hd (runN aP s.data.toList i=N-i/\i<=N):=⟨by omega,by omega⟩;have HI:=ae hi;rw[show runN aP s.data.toList i=N-i by omega];obtain⟨X,hX⟩:∃X:List UInt8,X=aO s.data.toList i (N-i):=⟨_,rfl⟩;have hsl:∀wx,(Instr.slice 9 (.string s) (some (.int .i64 (i:Int))) (some (.int .i64 (N:Int))) none).run prog wx=.ok (.string ⟨X.toArray⟩) wx:=fun wx=>by rw[hX];exact tV s i N (by omega) HN.o wx
 rw[<-hX,show i+(N-i)=N by omega];clear h hN hi hX;go_enter func173,ntmps173;go_wp2;go_loopw [] (fun wr=>∃j:Nat,i<=j/\j<=N/\RS b s j wr/\w.grownBy wr (some b)) (fun wr=>s.size-placeOf b wr)
 case atStart=>exact⟨i,Nat.le_refl _,HT.o.2,HR.o,ai _ _⟩
 case round =>
  obtain⟨j,hij,hjn,hrs,hgb⟩:=hrel;have d0:=hrs.c0;have d1:=hrs.c1;have df:=hrs.f1;have aA:=ae hrs;have aZ:=ae hgb;have hns:=HN.o;clear hrs hgb h0 h1
  by_cases hlt:j<N
  ·have hjs:j<s.size:=by omega
   have hD:=HA.o j hij hjs hlt;have HK:Hd (i<=j/\j<N):=⟨hij,hlt⟩;clear hlt hjn hns hij;have hlt2:(j:Int)<(s.size:Int):=by omega
   go_wp2;go_quiet (first|(go_at_call 179;exact Calls.quiet_of_same (yM _ _)));go_wp2;go_roundw
   case rel =>
    have:=HK.o;exact⟨j+1,by omega,by omega,(aA.o.drew _).set (j+1),bI (aH aZ.o _) _ _⟩
   case measure =>
    have e1:=aA.o.place;have e2:=((aA.o.drew nq).set (j+1)).place;rw[e1];exact Nat.lt_of_le_of_lt (Nat.le_of_eq (congrArg (s.size - ·) e2)) (by omega)
  ·have hjN:j=N:=by omega
   subst hjN
   by_cases hjs:j<s.size
   ·have hD:=HS.o hjs;have hlt2:(j:Int)<(s.size:Int):=by omega
    clear hlt hjn hns hij;go_wp2;go_quiet (first|(go_at_call 179;exact Calls.quiet_of_same (yM _ _)));go_wp2;obtain⟨W,hW⟩:=zN (wr.drewN nq);have e0:W.cell? ⟨b,0,none⟩=some (.string s):=by rw[<-hW];exact d0
    have e1:W.cell? ⟨b,1,none⟩=some (.int .i64 (j:Int)):=by rw[<-hW];exact d1
    have HW:Hd (RS b s j W/\w.grownBy W (some b)):=by
     show RS b s j W/\w.grownBy W (some b);rw[<-hW];exact⟨aA.o.drew _,aH aZ.o _⟩
    rw[hW];clear hW d0 d1 df aA aZ;go_quiet (fail);go_wp2;go_ret;exact⟨rfl,HW.o.1.drew _,aH HW.o.2 _⟩
   ·have hd2:decide ((j:Int)<(s.size:Int))=false:=by simp;omega
    clear hlt hjn hns hij;go_wp2;go_quiet (fail);go_wp2;obtain⟨W,hW⟩:=zN (wr.drewN nq);have e0:W.cell? ⟨b,0,none⟩=some (.string s):=by rw[<-hW];exact d0
    have e1:W.cell? ⟨b,1,none⟩=some (.int .i64 (j:Int)):=by rw[<-hW];exact d1
    have HW:Hd (RS b s j W/\w.grownBy W (some b)):=by
     show RS b s j W/\w.grownBy W (some b);rw[<-hW];exact⟨aA.o.drew _,aH aZ.o _⟩
    rw[hW];clear hW d0 d1 df aA aZ;go_quiet (fail);go_wp2;go_ret;exact⟨rfl,HW.o.1.drew _,aH HW.o.2 _⟩
theorem run_parts(b:Nat)(s:ByteArray)(i:Nat)(w:World)(hi:i<=s.size)(h:RS b s i w)(hs:s.size<2 ^ 62) :
  Calls prog 173 #[.pointer (some ⟨b,0,none⟩),.func (.func 198) #[] #[]] w fun e w'=>e=.returned (.string ⟨(aO s.data.toList i (runN aT s.data.toList i)).toArray⟩)/\RS b s (i+runN aT s.data.toList i) w'/\w.grownBy w' (some b):=by
 have h0:=h.c0;have h1:=h.c1;have HR:=ae h;obtain⟨N,hN⟩:=zN (i+runN aT s.data.toList i);have HN:Hd (N<=s.size):=by
  show N<=s.size;have:=mG aT s.data.toList i (by simpa using hi);simp at this;omega
 have HA:Hd (∀j,i<=j->(hj:j<s.size)->j<N->aT s[j]=true):=by
  show ∀j,i<=j->(hj:j<s.size)->j<N->aT s[j]=true;intro j h1 hj h2;obtain⟨g1,g2⟩:=Az aT s.data.toList i (j-i) (by omega);have e:i+(j-i)=j:=by omega
  simp only[e]at g2;exact g2
 have HS:Hd (∀hj:N<s.size,aT s[N]=false):=by
  show ∀hj:N<s.size,aT s[N]=false;intro hj;have:=uZ aT s.data.toList i (by rw[hN];simpa using hj);simp only[hN]at this;exact this
 have HT:Hd (runN aT s.data.toList i=N-i/\i<=N):=⟨by omega,by omega⟩;have HI:=ae hi;rw[show runN aT s.data.toList i=N-i by omega];obtain⟨X,hX⟩:∃X:List UInt8,X=aO s.data.toList i (N-i):=⟨_,rfl⟩;have hsl:∀wx,(Instr.slice 9 (.string s) (some (.int .i64 (i:Int))) (some (.int .i64 (N:Int))) none).run prog wx=.ok (.string ⟨X.toArray⟩) wx:=fun wx=>by rw[hX];exact tV s i N (by omega) HN.o wx
 rw[<-hX,show i+(N-i)=N by omega];clear h hN hi hX;go_enter func173,ntmps173;go_wp2;go_loopw [] (fun wr=>∃j:Nat,i<=j/\j<=N/\RS b s j wr/\w.grownBy wr (some b)) (fun wr=>s.size-placeOf b wr)
 case atStart=>exact⟨i,Nat.le_refl _,HT.o.2,HR.o,ai _ _⟩
 case round =>
  obtain⟨j,hij,hjn,hrs,hgb⟩:=hrel;have d0:=hrs.c0;have d1:=hrs.c1;have df:=hrs.f1;have aA:=ae hrs;have aZ:=ae hgb;have hns:=HN.o;clear hrs hgb h0 h1
  by_cases hlt:j<N
  ·have hjs:j<s.size:=by omega
   have hD:=HA.o j hij hjs hlt;have HK:Hd (i<=j/\j<N):=⟨hij,hlt⟩;clear hlt hjn hns hij;have hlt2:(j:Int)<(s.size:Int):=by omega
   go_wp2;go_quiet (first|(go_at_call 198;exact Calls.quiet_of_same (Rt _ _)));go_wp2;go_roundw
   case rel =>
    have:=HK.o;exact⟨j+1,by omega,by omega,(aA.o.drew _).set (j+1),bI (aH aZ.o _) _ _⟩
   case measure =>
    have e1:=aA.o.place;have e2:=((aA.o.drew nq).set (j+1)).place;rw[e1];exact Nat.lt_of_le_of_lt (Nat.le_of_eq (congrArg (s.size - ·) e2)) (by omega)
  ·have hjN:j=N:=by omega
   subst hjN
   by_cases hjs:j<s.size
   ·have hD:=HS.o hjs;have hlt2:(j:Int)<(s.size:Int):=by omega
    clear hlt hjn hns hij;go_wp2;go_quiet (first|(go_at_call 198;exact Calls.quiet_of_same (Rt _ _)));go_wp2;obtain⟨W,hW⟩:=zN (wr.drewN nq);have e0:W.cell? ⟨b,0,none⟩=some (.string s):=by rw[<-hW];exact d0
    have e1:W.cell? ⟨b,1,none⟩=some (.int .i64 (j:Int)):=by rw[<-hW];exact d1
    have HW:Hd (RS b s j W/\w.grownBy W (some b)):=by
     show RS b s j W/\w.grownBy W (some b);rw[<-hW];exact⟨aA.o.drew _,aH aZ.o _⟩
    rw[hW];clear hW d0 d1 df aA aZ;go_quiet (fail);go_wp2;go_ret;exact⟨rfl,HW.o.1.drew _,aH HW.o.2 _⟩
   ·have hd2:decide ((j:Int)<(s.size:Int))=false:=by simp;omega
    clear hlt hjn hns hij;go_wp2;go_quiet (fail);go_wp2;obtain⟨W,hW⟩:=zN (wr.drewN nq);have e0:W.cell? ⟨b,0,none⟩=some (.string s):=by rw[<-hW];exact d0
    have e1:W.cell? ⟨b,1,none⟩=some (.int .i64 (j:Int)):=by rw[<-hW];exact d1
    have HW:Hd (RS b s j W/\w.grownBy W (some b)):=by
     show RS b s j W/\w.grownBy W (some b);rw[<-hW];exact⟨aA.o.drew _,aH aZ.o _⟩
    rw[hW];clear hW d0 d1 df aA aZ;go_quiet (fail);go_wp2;go_ret;exact⟨rfl,HW.o.1.drew _,aH HW.o.2 _⟩
open Go.RowKit
theorem vI{a:ByteArray}(h:a.size=0):a.toList.isEmpty=true:=by
 rw[Lib.toList_data,List.isEmpty_iff];exact List.length_eq_zero_iff.1 (by simpa using h)
theorem nU{a:ByteArray}(h:a.size≠0):a.toList.isEmpty=false:=by
 rw[Lib.toList_data]
 cases hl:a.data.toList with
 | nil=>exact absurd (show a.size=0 from by show a.data.size=0;rw[<-Array.length_toList,hl];rfl) h
 | cons c l=>rfl
theorem RS.grow{b:Nat}{s:ByteArray}{i:Nat}{w w':World}(h:RS b s i w)(hg:w.grownBy w' none):RS b s i w':=by
 obtain⟨t,h⟩:=h;exact⟨t,by rw[hg.block b ((aC h)) (by simp)];exact h⟩
theorem Ru(s:ByteArray)(w:World):Calls prog 180 #[.string s] w fun e w'=>e=.returned (.bool (decide (1<s.data.toList.length) && decide (s.data.toList[0]?=some 48)))/\w'=w:=by
 by_cases h1:1<s.size
 ·have h0:0<s.size:=by omega
  have hl:decide (1<s.data.toList.length)=true:=by simp;exact h1
  rw[hl,Bool.true_and,iR s 0 h0]
  cases hz:((s[0].toNat:Int) == 48) with
  | true =>
   have hc:s[0]=48:=UInt8.toNat_inj.1 (by have:=eq_of_beq hz;have e48:(48:UInt8).toNat=48:=rfl;omega);have HZ:Hd (decide (some s[0]=some (48:UInt8))=true):=by show decide _=true;rw[hc];rfl
   rw[HZ.o];clear hc hl;go_enter func180,ntmps180;go_wp2;go_ret;exact⟨rfl,rfl⟩
  | false =>
   have HZ:Hd (decide (some s[0]=some (48:UInt8))=false):=by
    show decide _=false;apply decide_eq_false;intro e;rw[Option.some.inj e]at hz;exact absurd hz (by decide)
   rw[HZ.o];clear hl;go_enter func180,ntmps180;go_wp2;go_ret;exact⟨rfl,rfl⟩
 ·have hl:decide (1<s.data.toList.length)=false:=by simp;exact Nat.le_of_not_lt h1
  rw[hl,Bool.false_and];clear hl;go_enter func180,ntmps180;go_wp2;go_ret;exact⟨rfl,rfl⟩
theorem Rw(b:Nat)(s:ByteArray)(i:Nat)(w:World)(hi:i<=s.size)(h:RS b s i w)(hs:s.size<2 ^ 62) :
  Calls prog 181 #[.pointer (some ⟨b,0,none⟩),.int .i64 0] w fun e w'=>e=.returned (.int .i64 (aQ true s.data.toList i).1)/\RS b s (aQ true s.data.toList i).2 w'/\w.grownBy w' (some b):=by
 have HI:Hd (RS b s i w/\i<=s.size):=⟨h,hi⟩;obtain⟨E,Q,iK⟩:∃E Q,aQ true s.data.toList i=(E,Q):=⟨_,_,rfl⟩;rw[iK];have yS:=ae iK;have hsl:s.data.toList.length=s.size:=by simp
 have lm:=ae hsl;clear h hi iK hsl;go_enter func181,ntmps181;go_wp2;go_loopw [] (fun wr=>∃j:Nat,j<=s.size/\RS b s j wr/\w.grownBy wr (some b)/\aQ true s.data.toList j=(E,Q)) (fun wr=>s.size-placeOf b wr)
 case atStart=>exact⟨i,HI.o.2,HI.o.1,ai _ _,yS.o⟩
 case round =>
  obtain⟨j,hj,hrs,hgb,hrd⟩:=hrel;have CR:=ae (run_parts b s j wr hj hrs hs);have iT:=ae hrs.place;have d1:=hrs.c1;have hle:j+runN aT s.data.toList j<=s.size:=by have:=mG aT s.data.toList j (by rw[lm.o];exact hj);rw[lm.o]at this;exact this
  have hln:=pV s.data.toList j (runN aT s.data.toList j) (by rw[lm.o];exact hle);rw[Ec]at hrd;obtain⟨k,hk⟩:=zN (runN aT s.data.toList j);rw[hk]at CR hrd hle hln;obtain⟨T,hT⟩:=zN (aO s.data.toList j k);rw[hT]at CR hrd hln;obtain⟨X,hX⟩:∃X:ByteArray,X=⟨T.toArray⟩:=⟨_,rfl⟩;rw[<-hX]at CR;have AU:Hd (X.data.toList=T):=by show X.data.toList=T;rw[hX]
  have iF:X.size=k:=by rw[hX];show T.toArray.size=k;simpa using hln
  have aZ:=ae hgb;have aA:=ae hrs;have pY:=ae hrd;clear hk hT hX hgb hrs hrd hln
  by_cases hk0:k=0
  ·have e1:=vI (iF.trans hk0);have HZ:Hd (E=2/\Q=j):=by
    have:=pY.o;rw[if_pos hk0]at this;exact⟨(congrArg Prod.fst this).symm,(congrArg Prod.snd this).symm⟩
   have HK:=ae hk0;clear hk0 iF hle;go_wp2_with (go_at_call 173;refine CR.o.mono ?_);rintro e w1 ⟨rfl,hr1,hg1⟩;have HF:Hd (RS b s Q w1/\w.grownBy w1 (some b)):=by
    refine⟨?_,ag aZ.o hg1⟩;rw[HZ.o.2];rw[HK.o]at hr1;exact hr1
   clear hr1 hg1;go_wp2;go_ret;exact⟨bF HZ.o.1.symm,HF.o.1,HF.o.2⟩
  ·have e1:=nU (fun h=>hk0 (iF.symm.trans h));have oM:Hd (X.data.toList.isEmpty=false):=by show X.data.toList.isEmpty=false;rw[<-Lib.toList_data];exact e1
   have HK:=ae hk0;have Rx:X.size<2 ^ 62:=by omega
   have AV:=ae hle;clear hk0 iF hle;go_wp2_with (go_at_call 173;refine CR.o.mono ?_);rintro e w1 ⟨rfl,hr1,hg1⟩;have HR1:=ae hr1;have bg:=ae (ag aZ.o hg1);clear hr1 hg1;have CD:=ae (fun w=>GV X w Rx);obtain⟨dX,Ky⟩:=zN (eH X.data.toList);rw[Ky]at CD;have HDX:Hd (T.all aP=dX):=by
    show T.all aP=dX;rw[<-Ky];unfold eH;rw[oM.o,AU.o];rfl
   obtain⟨z,hz⟩:=zN ((decide (1<X.data.toList.length) && decide (X.data.toList[0]?=some 48)));have CZ:Hd (∀w,Calls prog 180 #[.string X] w fun e w'=>e=.returned (.bool z)/\w'=w):=fun w=>by rw[<-hz];exact Ru X w
   have uh:Hd (jc true T=(dX && z)):=by
    show jc true T=_;rw[<-hz,<-HDX.o,AU.o];rfl
   clear Ky hz;go_wp2_with (go_at_call 187;refine(CD.o _).mono ?_);rintro e w2 ⟨rfl,hg2⟩;replace HR1:=ae (HR1.o.grow hg2);replace bg:=ae (ag bg.o (dA hg2 _));clear hg2
   cases dX with
   | false =>
    have HB:Hd (jc true T=false):=by show jc true T=false;rw[uh.o];rfl
    cases hc:decide (s.data.toList[j+k]?=some 46) with
    | true =>
     have hc':=of_decide_eq_true hc;have HT:Hd (aQ true s.data.toList (j+k+1)=(E,Q)):=by
      have:=pY.o;rw[if_neg HK.o,if_neg (by rw[HB.o];simp),if_pos hc']at this;exact this
     have CT:=ae (ug b s (j+k) 46 w2 hc' HR1.o hs);have gp:Hd (j+k<s.size):=by have:=(List.getElem?_eq_some_iff.1 hc').1;rw[lm.o]at this;exact this
     clear hc hc';go_wp2_with (go_at_call 148;refine CT.o.mono ?_);rintro e w3 ⟨rfl,hr3,hg3⟩;have HF:Hd (RS b s (j+k+1) w3/\w.grownBy w3 (some b)):=⟨hr3,ag bg.o hg3⟩;clear hr3 hg3;go_wp2;go_roundw
     case rel=>exact⟨j+k+1,gp.o,HF.o.1,HF.o.2,HT.o⟩
     case measure =>
      rw[iT.o,HF.o.1.place];have:=gp.o;omega
    | false =>
     have hc':=of_decide_eq_false hc;have HT:Hd (E=0/\Q=j+k):=by
      have:=pY.o;rw[if_neg HK.o,if_neg (by rw[HB.o];simp),if_neg hc']at this;exact⟨(congrArg Prod.fst this).symm,(congrArg Prod.snd this).symm⟩
     have CT:=ae (pX b s (j+k) 46 w2 AV.o hc' HR1.o hs);clear hc hc';go_wp2_with (go_at_call 148;refine CT.o.mono ?_);rintro e w3 ⟨rfl,hr3,hg3⟩;have HF:Hd (RS b s (j+k) w3/\w.grownBy w3 (some b)):=⟨hr3,ag bg.o hg3⟩;clear hr3 hg3;go_wp2;go_ret;exact⟨bF HT.o.1.symm,by rw[HT.o.2];exact HF.o.1,HF.o.2⟩
   | true =>
    cases z with
    | true =>
     have HZ:Hd (E=2/\Q=j):=by
      have:=pY.o;rw[if_neg HK.o,if_pos (by rw[uh.o];rfl)]at this;exact⟨(congrArg Prod.fst this).symm,(congrArg Prod.snd this).symm⟩
     have f1:=HR1.o.c1;have f2:=HR1.o.f1;go_wp2_with (go_at_call 180;refine(CZ.o _).mono ?_;rintro e w' ⟨rfl,rfl⟩);go_ret;exact⟨bF HZ.o.1.symm,by rw[HZ.o.2];exact HR1.o.set j,bI bg.o _ _⟩
    | false =>
     have HB:Hd (jc true T=false):=by show jc true T=false;rw[uh.o];rfl
     cases hc:decide (s.data.toList[j+k]?=some 46) with
     | true =>
      have hc':=of_decide_eq_true hc;have HT:Hd (aQ true s.data.toList (j+k+1)=(E,Q)):=by
       have:=pY.o;rw[if_neg HK.o,if_neg (by rw[HB.o];simp),if_pos hc']at this;exact this
      have CT:=ae (ug b s (j+k) 46 w2 hc' HR1.o hs);have gp:Hd (j+k<s.size):=by have:=(List.getElem?_eq_some_iff.1 hc').1;rw[lm.o]at this;exact this
      clear hc hc';go_wp2_with (first|(go_at_call 180;refine(CZ.o _).mono ?_;rintro e w' ⟨rfl,rfl⟩)|(go_at_call 148;refine CT.o.mono ?_));rintro e w3 ⟨rfl,hr3,hg3⟩;have HF:Hd (RS b s (j+k+1) w3/\w.grownBy w3 (some b)):=⟨hr3,ag bg.o hg3⟩;clear hr3 hg3;go_wp2;go_roundw
      case rel=>exact⟨j+k+1,gp.o,HF.o.1,HF.o.2,HT.o⟩
      case measure =>
       rw[iT.o,HF.o.1.place];have:=gp.o;omega
     | false =>
      have hc':=of_decide_eq_false hc;have HT:Hd (E=0/\Q=j+k):=by
       have:=pY.o;rw[if_neg HK.o,if_neg (by rw[HB.o];simp),if_neg hc']at this;exact⟨(congrArg Prod.fst this).symm,(congrArg Prod.snd this).symm⟩
      have CT:=ae (pX b s (j+k) 46 w2 AV.o hc' HR1.o hs);clear hc hc';go_wp2_with (first|(go_at_call 180;refine(CZ.o _).mono ?_;rintro e w' ⟨rfl,rfl⟩)|(go_at_call 148;refine CT.o.mono ?_));rintro e w3 ⟨rfl,hr3,hg3⟩;have HF:Hd (RS b s (j+k) w3/\w.grownBy w3 (some b)):=⟨hr3,ag bg.o hg3⟩;clear hr3 hg3;go_wp2;go_ret;exact⟨bF HT.o.1.symm,by rw[HT.o.2];exact HF.o.1,HF.o.2⟩
theorem Ry(b:Nat)(s:ByteArray)(i:Nat)(w:World)(hi:i<=s.size)(h:RS b s i w)(hs:s.size<2 ^ 62) :
  Calls prog 181 #[.pointer (some ⟨b,0,none⟩),.int .i64 1] w fun e w'=>e=.returned (.int .i64 (aQ false s.data.toList i).1)/\RS b s (aQ false s.data.toList i).2 w'/\w.grownBy w' (some b):=by
 have HI:Hd (RS b s i w/\i<=s.size):=⟨h,hi⟩;obtain⟨E,Q,iK⟩:∃E Q,aQ false s.data.toList i=(E,Q):=⟨_,_,rfl⟩;rw[iK];have yS:=ae iK;have hsl:s.data.toList.length=s.size:=by simp
 have lm:=ae hsl;clear h hi iK hsl;go_enter func181,ntmps181;go_wp2;go_loopw [] (fun wr=>∃j:Nat,j<=s.size/\RS b s j wr/\w.grownBy wr (some b)/\aQ false s.data.toList j=(E,Q)) (fun wr=>s.size-placeOf b wr)
 case atStart=>exact⟨i,HI.o.2,HI.o.1,ai _ _,yS.o⟩
 case round =>
  obtain⟨j,hj,hrs,hgb,hrd⟩:=hrel;have CR:=ae (run_parts b s j wr hj hrs hs);have iT:=ae hrs.place;have d1:=hrs.c1;have hle:j+runN aT s.data.toList j<=s.size:=by have:=mG aT s.data.toList j (by rw[lm.o];exact hj);rw[lm.o]at this;exact this
  have hln:=pV s.data.toList j (runN aT s.data.toList j) (by rw[lm.o];exact hle);rw[Ec]at hrd;obtain⟨k,hk⟩:=zN (runN aT s.data.toList j);rw[hk]at CR hrd hle hln;obtain⟨T,hT⟩:=zN (aO s.data.toList j k);rw[hT]at CR hrd hln;obtain⟨X,hX⟩:∃X:ByteArray,X=⟨T.toArray⟩:=⟨_,rfl⟩;rw[<-hX]at CR;have AU:Hd (X.data.toList=T):=by show X.data.toList=T;rw[hX]
  have iF:X.size=k:=by rw[hX];show T.toArray.size=k;simpa using hln
  have aZ:=ae hgb;have aA:=ae hrs;have pY:=ae hrd;clear hk hT hX hgb hrs hrd hln
  by_cases hk0:k=0
  ·have e1:=vI (iF.trans hk0);have HZ:Hd (E=2/\Q=j):=by
    have:=pY.o;rw[if_pos hk0]at this;exact⟨(congrArg Prod.fst this).symm,(congrArg Prod.snd this).symm⟩
   have HK:=ae hk0;clear hk0 iF hle;go_wp2_with (go_at_call 173;refine CR.o.mono ?_);rintro e w1 ⟨rfl,hr1,hg1⟩;have HF:Hd (RS b s Q w1/\w.grownBy w1 (some b)):=by
    refine⟨?_,ag aZ.o hg1⟩;rw[HZ.o.2];rw[HK.o]at hr1;exact hr1
   clear hr1 hg1;go_wp2;go_ret;exact⟨bF HZ.o.1.symm,HF.o.1,HF.o.2⟩
  ·have e1:=nU (fun h=>hk0 (iF.symm.trans h));have oM:Hd (X.data.toList.isEmpty=false):=by show X.data.toList.isEmpty=false;rw[<-Lib.toList_data];exact e1
   have HK:=ae hk0;have Rx:X.size<2 ^ 62:=by omega
   have AV:=ae hle;clear hk0 iF hle;go_wp2_with (go_at_call 173;refine CR.o.mono ?_);rintro e w1 ⟨rfl,hr1,hg1⟩;have HR1:=ae hr1;have bg:=ae (ag aZ.o hg1);clear hr1 hg1;have HB:Hd (jc false T=false):=rfl
   cases hc:decide (s.data.toList[j+k]?=some 46) with
   | true =>
    have hc':=of_decide_eq_true hc;have HT:Hd (aQ false s.data.toList (j+k+1)=(E,Q)):=by
     have:=pY.o;rw[if_neg HK.o,if_neg (by rw[HB.o];simp),if_pos hc']at this;exact this
    have CT:=ae (ug b s (j+k) 46 w1 hc' HR1.o hs);have gp:Hd (j+k<s.size):=by have:=(List.getElem?_eq_some_iff.1 hc').1;rw[lm.o]at this;exact this
    clear hc hc';go_wp2_with (go_at_call 148;refine CT.o.mono ?_);rintro e w3 ⟨rfl,hr3,hg3⟩;have HF:Hd (RS b s (j+k+1) w3/\w.grownBy w3 (some b)):=⟨hr3,ag bg.o hg3⟩;clear hr3 hg3;go_wp2;go_roundw
    case rel=>exact⟨j+k+1,gp.o,HF.o.1,HF.o.2,HT.o⟩
    case measure =>
     rw[iT.o,HF.o.1.place];have:=gp.o;omega
   | false =>
    have hc':=of_decide_eq_false hc;have HT:Hd (E=0/\Q=j+k):=by
     have:=pY.o;rw[if_neg HK.o,if_neg (by rw[HB.o];simp),if_neg hc']at this;exact⟨(congrArg Prod.fst this).symm,(congrArg Prod.snd this).symm⟩
    have CT:=ae (pX b s (j+k) 46 w1 AV.o hc' HR1.o hs);clear hc hc';go_wp2_with (go_at_call 148;refine CT.o.mono ?_);rintro e w3 ⟨rfl,hr3,hg3⟩;have HF:Hd (RS b s (j+k) w3/\w.grownBy w3 (some b)):=⟨hr3,ag bg.o hg3⟩;clear hr3 hg3;go_wp2;go_ret;exact⟨bF HT.o.1.symm,by rw[HT.o.2];exact HF.o.1,HF.o.2⟩
open Go.RowKit
theorem Rz{w w1:World}{o:Obj}(h:(w.alloc o).grownBy w1 (some w.heap.size)):w.grownBy w1 none :=
 ⟨h.os,h.tape,h.output,by have:=h.size;simp at this;omega,fun k hk _=>by rw[h.block k (by simp;omega) (by simp;omega)];exact Lib.alloc_old w o k hk⟩
theorem RD(s:ByteArray)(kind:Int)(st:Bool)(w:World)(h0:s.size≠0)(hs:s.size<2 ^ 62)
  (hk:∀b w,RS b s 0 w->Calls prog 181 #[.pointer (some ⟨b,0,none⟩),.int .i64 kind] w fun e w'=>e=.returned (.int .i64 (aQ st s.data.toList 0).1)/\RS b s (aQ st s.data.toList 0).2 w'/\w.grownBy w' (some b)) :
  Calls prog 218 #[.string s,.int .i64 kind] w fun e w'=>e=.returned (.bool (gy st s.data.toList))/\w.grownBy w' none:=by
 obtain⟨R,hR⟩:∃R,R=gy st s.data.toList:=⟨_,rfl⟩;obtain⟨E,Q,iK⟩:∃E Q,aQ st s.data.toList 0=(E,Q):=⟨_,_,rfl⟩;have HR:Hd (R=(decide (E=0) && decide (Q=s.size))):=by
  show R=_;have hne:s.data.toList≠[]:=fun e=>h0 (by show s.data.size=0;rw[<-Array.length_toList,e];rfl)
  rw[hR,<-ZZ st _ hne,iK,Bool.eq_iff_iff];simp[Prod.ext_iff]
 have HK:Hd (∀b w,RS b s 0 w->Calls prog 181 #[.pointer (some ⟨b,0,none⟩),.int .i64 kind] w fun e w'=>e=.returned (.int .i64 E)/\RS b s Q w'/\w.grownBy w' (some b)):=by
  intro b w hb;have:=hk b w hb;rw[iK]at this;exact this
 rw[<-hR];clear hR iK hk h0;go_enter func218,ntmps218;go_wp2_with (go_at_call 181;refine(HK.o _ _ ⟨_,heap_alloc_new w _⟩).mono ?_);rintro e w1 ⟨rfl,hr1,hg1⟩;have HG:=ae (Rz hg1);have CE:=ae (Hf _ s Q w1 hr1);clear hg1 hr1
 cases hE:(E == 0) with
 | false =>
  have HZ:Hd (R=false):=by show R=false;rw[HR.o,decide_eq_false (by simpa using hE)];rfl
  go_wp2;go_ret;exact⟨bi HZ.o.symm,HG.o⟩
 | true =>
  have HZ:Hd (R=decide (Q=s.size)):=by
   show R=_;have h1:E=0:=by simpa using hE
   rw[HR.o,decide_eq_true h1,Bool.true_and]
  obtain⟨q,hq⟩:=zN (decide (Q=s.size));rw[hq]at CE HZ;clear hq;go_wp2_with (go_at_call 132;refine CE.o.mono ?_);rintro e w2 ⟨rfl,n,hn⟩;have HG2:Hd (w.grownBy w2 none):=by show w.grownBy w2 none;rw[hn];exact aH HG.o n
  clear hn;go_wp2;go_ret;exact⟨bi HZ.o.symm,HG2.o⟩
theorem aa7(s:ByteArray)(w:World)(h0:s.size≠0)(hs:s.size<2 ^ 62):Calls prog 218 #[.string s,.int .i64 0] w fun e w'=>e=.returned (.bool (gy true s.data.toList))/\w.grownBy w' none :=
 RD s 0 true w h0 hs (fun b w h=>Rw b s 0 w (Nat.zero_le _) h hs)
theorem aa8(s:ByteArray)(w:World)(h0:s.size≠0)(hs:s.size<2 ^ 62):Calls prog 218 #[.string s,.int .i64 1] w fun e w'=>e=.returned (.bool (gy false s.data.toList))/\w.grownBy w' none :=
 RD s 1 false w h0 hs (fun b w h=>Ry b s 0 w (Nat.zero_le _) h hs)
theorem RF(b:Bool)(s:ByteArray)(h:s.size=0):gy b s.data.toList=true:=by
 have:s.data.toList=[]:=List.length_eq_zero_iff.1 (by simpa using h);rw[this];rfl
theorem ix0(a1 a2 a3:Int)(w:World):(Instr.index 293 (.agg #[.int .i64 a1,.int .i64 a2,.int .i64 a3]) (.int .i64 0)).run prog w=.ok (.int .i64 a1) w:=by kernel_rfl
theorem ix1(a1 a2 a3:Int)(w:World):(Instr.index 293 (.agg #[.int .i64 a1,.int .i64 a2,.int .i64 a3]) (.int .i64 1)).run prog w=.ok (.int .i64 a2) w:=by kernel_rfl
theorem ix2(a1 a2 a3:Int)(w:World):(Instr.index 293 (.agg #[.int .i64 a1,.int .i64 a2,.int .i64 a3]) (.int .i64 2)).run prog w=.ok (.int .i64 a3) w:=by kernel_rfl
theorem RG(a1 a2 a3:Int)(a4 a5:ByteArray)(w:World)(h4:a4.size<2 ^ 62)(h5:a5.size<2 ^ 62) :
  Calls prog 195 #[.agg #[.int .i64 a1,.int .i64 a2,.int .i64 a3,.string a4,.string a5]] w fun e w'=>e=.returned (.bool (kP ⟨a1,a2,a3,a4.data.toList,a5.data.toList⟩))/\w.grownBy w' none:=by
 obtain⟨R,hR⟩:∃R,R=kP ⟨a1,a2,a3,a4.data.toList,a5.data.toList⟩:=⟨_,rfl⟩;obtain⟨x4,hx4⟩:∃x,x=gy true a4.data.toList:=⟨_,rfl⟩;obtain⟨x5,hx5⟩:∃x,x=gy false a5.data.toList:=⟨_,rfl⟩;have HR:Hd (R=(bound a1 && (bound a2 && (bound a3 && (x4 && x5))))):=by show R=_;rw[hR,hx4,hx5];rfl
 have C4:Hd (a4.size≠0->∀w,Calls prog 218 #[.string a4,.int .i64 0] w fun e w'=>e=.returned (.bool x4)/\w.grownBy w' none):=fun h w=>by rw[hx4];exact aa7 a4 w h h4
 have C5:Hd (a5.size≠0->∀w,Calls prog 218 #[.string a5,.int .i64 1] w fun e w'=>e=.returned (.bool x5)/\w.grownBy w' none):=fun h w=>by rw[hx5];exact aa8 a5 w h h5
 have E4:Hd (a4.size=0->x4=true):=fun h=>by rw[hx4];exact RF true a4 h
 have E5:Hd (a5.size=0->x5=true):=fun h=>by rw[hx5];exact RF false a5 h
 have GA:=ae (ak (ai w none));rw[<-hR];clear hR hx4 hx5 h4 h5;go_enter func195,ntmps195;go_wp2;obtain⟨W,hW⟩:=zN (w.alloc (.cells #[.int .i64 a1,.int .i64 a2,.int .i64 a3,.string a4,.string a5] 150));have HG:Hd (w.grownBy W none):=by show w.grownBy W none;rw[<-hW];exact GA.o _
 obtain⟨A,hA⟩:=zN (w.heap.size);have STa:Hd (St A a1 a2 a3 a4 a5 W):=by
  show St A a1 a2 a3 a4 a5 W;rw[<-hW,<-hA];exact yN (t:=150) (heap_alloc_new w _)
 rw[hW,hA];clear hW hA GA
 go_loop [12] (fun i=>∃k:Nat,k<=3/\i=.int .i64 k/\(1<=k->bound a1=true)/\(2<=k->bound a2=true)/\(3<=k->bound a3=true)) (fun i=>3-(intOf i).toNat)
 case atStart=>exact⟨0,by omega,rfl,by omega,by omega,by omega⟩
 case round =>
  obtain⟨k,hk,rfl,k1,k2,k3⟩:=hrel;have K1:=ae k1;have K2:=ae k2;have K3:=ae k3;clear k1 k2 k3
  rcases(show k=0\/k=1\/k=2\/k=3 by omega) with rfl|rfl|rfl|rfl
  ·clear hk;have ix:=ix0 a1 a2 a3 W
   by_cases b0:0<=a1
   ·have n0:decide (a1<0)=false:=decide_eq_false (by omega)
    by_cases b1:a1<=1000000000
    ·have n1:decide (1000000000<a1)=false:=decide_eq_false (by omega);have BB:Hd (0<=a1/\a1<=1000000000):=⟨b0,b1⟩;clear b0 b1;go_wp2
     go_round
     case rel=>exact⟨1,by omega,rfl,fun _=>qJ.2 BB.o,by omega,by omega⟩
     case measure=>simp[intOf]
    ·have n1:decide (1000000000<a1)=true:=decide_eq_true (by omega);have HZ:Hd (R=false):=by show R=false;rw[HR.o,show bound a1=false by cases hb:bound a1 with|true=>exact absurd (qJ.1 hb) (by omega)|false=>rfl];simp
     clear b0 b1;go_wp2;go_ret;exact⟨bi HZ.o.symm,HG.o⟩
   ·have HZ:Hd (R=false):=by show R=false;rw[HR.o,show bound a1=false by cases hb:bound a1 with|true=>exact absurd (qJ.1 hb) (by omega)|false=>rfl];simp
    go_wp2;go_ret;exact⟨bi HZ.o.symm,HG.o⟩
  ·clear hk;have ix:=ix1 a1 a2 a3 W
   by_cases b0:0<=a2
   ·have n0:decide (a2<0)=false:=decide_eq_false (by omega)
    by_cases b1:a2<=1000000000
    ·have n1:decide (1000000000<a2)=false:=decide_eq_false (by omega);have BB:Hd (0<=a2/\a2<=1000000000):=⟨b0,b1⟩;clear b0 b1;go_wp2
     go_round
     case rel=>exact⟨2,by omega,rfl,fun _=>K1.o (by omega),fun _=>qJ.2 BB.o,by omega⟩
     case measure=>simp[intOf]
    ·have n1:decide (1000000000<a2)=true:=decide_eq_true (by omega);have HZ:Hd (R=false):=by show R=false;rw[HR.o,show bound a2=false by cases hb:bound a2 with|true=>exact absurd (qJ.1 hb) (by omega)|false=>rfl];simp
     clear b0 b1;go_wp2;go_ret;exact⟨bi HZ.o.symm,HG.o⟩
   ·have HZ:Hd (R=false):=by show R=false;rw[HR.o,show bound a2=false by cases hb:bound a2 with|true=>exact absurd (qJ.1 hb) (by omega)|false=>rfl];simp
    go_wp2;go_ret;exact⟨bi HZ.o.symm,HG.o⟩
  ·clear hk;have ix:=ix2 a1 a2 a3 W
   by_cases b0:0<=a3
   ·have n0:decide (a3<0)=false:=decide_eq_false (by omega)
    by_cases b1:a3<=1000000000
    ·have n1:decide (1000000000<a3)=false:=decide_eq_false (by omega);have BB:Hd (0<=a3/\a3<=1000000000):=⟨b0,b1⟩;clear b0 b1;go_wp2
     go_round
     case rel=>exact⟨3,by omega,rfl,fun _=>K1.o (by omega),fun _=>K2.o (by omega),fun _=>qJ.2 BB.o⟩
     case measure=>simp[intOf]
    ·have n1:decide (1000000000<a3)=true:=decide_eq_true (by omega);have HZ:Hd (R=false):=by show R=false;rw[HR.o,show bound a3=false by cases hb:bound a3 with|true=>exact absurd (qJ.1 hb) (by omega)|false=>rfl];simp
     clear b0 b1;go_wp2;go_ret;exact⟨bi HZ.o.symm,HG.o⟩
   ·have HZ:Hd (R=false):=by show R=false;rw[HR.o,show bound a3=false by cases hb:bound a3 with|true=>exact absurd (qJ.1 hb) (by omega)|false=>rfl];simp
    go_wp2;go_ret;exact⟨bi HZ.o.symm,HG.o⟩
  ·have HB:Hd (R=(x4 && x5)):=by show R=_;rw[HR.o,K1.o (by omega),K2.o (by omega),K3.o (by omega)];rfl
   obtain⟨s1,s2,s3,s4,s5⟩:=STa.o;clear hk
   by_cases z4:a4.size=0
   ·have e4:=vI z4;have hx4:=ae (E4.o z4);clear z4
    by_cases z5:a5.size=0
    ·have e5:=vI z5;have HZ:Hd (R=true):=by show R=true;rw[HB.o,hx4.o,E5.o z5];rfl
     clear z5;go_wp2;go_ret;exact⟨bi HZ.o.symm,HG.o⟩
    ·have e5:=nU z5;have C:=C5.o z5;have HC:=ae C;have HZ:Hd (R=x5):=by show R=x5;rw[HB.o,hx4.o];rfl
     clear z5 C;go_wp2_with (go_at_call 218;refine(HC.o _).mono ?_;rintro e w5 ⟨rfl,hg5⟩);go_ret;exact⟨bi HZ.o.symm,ag HG.o hg5⟩
   ·have e4:=nU z4;have Kz:=ae (C4.o z4);clear z4;go_wp2_with (go_at_call 218;refine(Kz.o _).mono ?_);rintro e w4 rfl hg4;have c5:=hg4.cell s5 (by simp);have eX:=ae (ag HG.o hg4);clear hg4
    cases x4 with
    | false =>
     have HZ:Hd (R=false):=by show R=false;rw[HB.o];rfl
     go_wp2;go_ret;exact⟨bi HZ.o.symm,eX.o⟩
    | true =>
     have RH:Hd (R=x5):=by show R=x5;rw[HB.o];rfl
     by_cases z5:a5.size=0
     ·have e5:=vI z5;have HZ:Hd (R=true):=by show R=true;rw[RH.o,E5.o z5]
      clear z5;go_wp2;go_ret;exact⟨bi HZ.o.symm,eX.o⟩
     ·have e5:=nU z5;have HC:=ae (C5.o z5);clear z5;go_wp2_with (go_at_call 218;refine(HC.o _).mono ?_;rintro e w5 ⟨rfl,hg5⟩);go_ret;exact⟨bi RH.o.symm,ag eX.o hg5⟩
open Go.RowKit
theorem RI(T:List UInt8)(m:Nat)(hm:m<T.length):aY (T.take (m+1))=10*aY (T.take m)+((T[m].toNat:Int)-48):=by
 rw[List.take_succ_eq_append_getElem hm,QP];rfl
theorem RJ(b:Nat)(s:ByteArray)(i:Nat)(w:World)(hi:i<=s.size)(h:RS b s i w)(hs:s.size<2 ^ 62) :
  Calls prog 151 #[.pointer (some ⟨b,0,none⟩)] w fun e w'=>e=.returned (.tuple #[.int .i64 (rdNum s.data.toList i).2.1,.int .i64 (rdNum s.data.toList i).1])/\RS b s (rdNum s.data.toList i).2.2 w'/\w.grownBy w' (some b):=by
 obtain⟨E,V,Q,iK⟩:∃E V Q,rdNum s.data.toList i=(E,V,Q):=⟨_,_,_,rfl⟩;rw[iK];have hsl:s.data.toList.length=s.size:=by simp
 have CR:=ae (aa6 b s i w hi h hs);have d1:=h.c1;have hle:i+runN aP s.data.toList i<=s.size:=by have:=mG aP s.data.toList i (by rw[hsl];exact hi);rw[hsl]at this;exact this
 have hln:=pV s.data.toList i (runN aP s.data.toList i) (by rw[hsl];exact hle);have hall:=yL aP s.data.toList i;have hT0:∀k,0<k->i+k<=s.data.toList.length->(aO s.data.toList i k)[0]?=s.data.toList[i]?:=by
  intro k hk hik;unfold aO;rw[List.getElem?_take_of_lt hk,List.getElem?_drop];rfl
 unfold rdNum at iK;obtain⟨k,hk⟩:=zN (runN aP s.data.toList i);rw[hk]at CR iK hle hln hall;have KA:=hT0 k;obtain⟨T,hT⟩:=zN (aO s.data.toList i k);rw[hT]at CR iK hln hall KA;obtain⟨X,hX⟩:∃X:ByteArray,X=⟨T.toArray⟩:=⟨_,rfl⟩;rw[<-hX]at CR;have AU:Hd (X.data.toList=T):=by show X.data.toList=T;rw[hX]
 have iF:X.size=k:=by rw[hX];show T.toArray.size=k;simpa using hln
 have yS:=ae iK;have jH:Hd (T.all aP=true/\T.length=k/\(0<k->T[0]?=s.data.toList[i]?)):=⟨hall,hln,fun h=>KA h (by rw[hsl];exact hle)⟩;clear hk hT hX iK hln hall hT0 KA h hsl hi
 by_cases hk0:k=0
 ·have e1:=vI (iF.trans hk0);have HZ:Hd (E=2/\V=0/\Q=i+k):=by
   have:=yS.o;rw[if_pos hk0]at this;exact⟨(congrArg Prod.fst this).symm,(congrArg (·.2.1) this).symm,by rw[hk0];exact(congrArg (·.2.2) this).symm⟩
  clear hk0 iF hle;go_enter func151,ntmps151;go_wp2_with (go_at_call 173;refine CR.o.mono ?_);rintro e w1 ⟨rfl,hr1,hg1⟩;have HF:Hd (RS b s Q w1/\w.grownBy w1 (some b)):=⟨by rw[HZ.o.2.2];exact hr1,hg1⟩;clear hr1 hg1;go_wp2;refine bodyPost_ret (results_tmp2 rfl _ _ _) rfl ⟨?_,HF.o.1,HF.o.2⟩;rw[HZ.o.1,HZ.o.2.1];rfl
 ·have e1:=nU (fun h=>hk0 (iF.symm.trans h));obtain⟨z,hz⟩:=zN ((decide (1<X.data.toList.length) && decide (X.data.toList[0]?=some 48)));have CZ:Hd (∀w,Calls prog 180 #[.string X] w fun e w'=>e=.returned (.bool z)/\w'=w):=fun w=>by rw[<-hz];exact Ru X w
  have RN:Hd (z=decide (1<k/\s.data.toList[i]?=some 48)):=by
   show z=_;rw[<-hz,AU.o,jH.o.2.1,jH.o.2.2 (by omega)];rw[Bool.eq_iff_iff];simp
  have HK:=ae hk0;clear hz hk0;go_enter func151,ntmps151;go_wp2_with (go_at_call 173;refine CR.o.mono ?_);rintro e w1 ⟨rfl,hr1,hg1⟩;have HR1:=ae hr1;have bg:=ae hg1;have f1:=hr1.c1;have f2:=hr1.f1;clear hr1 hg1
  cases z with
  | true =>
   have HZ:Hd (E=2/\V=0/\Q=i):=by
    have:=yS.o;rw[if_neg HK.o,if_pos (of_decide_eq_true RN.o.symm)]at this;exact⟨(congrArg Prod.fst this).symm,(congrArg (·.2.1) this).symm,(congrArg (·.2.2) this).symm⟩
   go_wp2_with (go_at_call 180;refine(CZ.o _).mono ?_;rintro e w' ⟨rfl,rfl⟩);refine bodyPost_ret (results_tmp2 rfl _ _ _) rfl ⟨?_,by rw[HZ.o.2.2];exact HR1.o.set i,bI bg.o _ _⟩;rw[HZ.o.1,HZ.o.2.1];rfl
  | false =>
   have HV:Hd ((if aY T > 999999999 then(3,0,i) else(0,aY T,i+k))=(E,V,Q)):=by
    have:=yS.o;rw[if_neg HK.o,if_neg (of_decide_eq_false RN.o.symm)]at this;exact this
   have kw:=Lib.run_convert_string_bytes (P:=prog) w1 9 265 5 X underlying9 underlying265 underlying5;obtain⟨W,hW⟩:=zN (Lib.bytesWorld w1 5 X);have HC:Hd (∀j,(hj:j<X.size)->W.cell? ⟨w1.heap.size,j,none⟩=some (.int .u8 (X[j].toNat:Int))):=by
    show ∀j,(hj:j<X.size)->W.cell? ⟨w1.heap.size,j,none⟩=some (.int .u8 (X[j].toNat:Int));intro j hj;rw[<-hW,Lib.bytesWorld_cell w1 _ X j hj];have:X.data.toList.getD j 0=X[j]:=by
     rw[List.getD_eq_getElem?_getD,iR X j hj];rfl
    rw[this]
   have hgW:w1.grownBy W none:=by rw[<-hW];exact J5 w1 _ X
   rw[hW]at kw;have HRW:=ae (HR1.o.grow hgW);have bD:=ae (ag bg.o (dA hgW _));have g1:=HRW.o.c1;have g2:=HRW.o.f1;clear hW hgW f1 f2;go_wp2_with (go_at_call 180;refine(CZ.o _).mono ?_;rintro e w' ⟨rfl,rfl⟩);have HXk:=ae iF;have hks:k<2 ^ 62:=by omega
   clear iF hle
   go_loop [6,26] (fun vn vi=>∃m:Nat,m<=k/\vi=.int .i64 m/\vn=.int .i64 (aY (T.take m))/\aY (T.take m)<=999999999) (fun _ vi=>k-(intOf vi).toNat)
   case atStart=>exact⟨0,Nat.zero_le _,rfl,rfl,by show(0:Int)<=_;omega⟩
   case round =>
    obtain⟨m,hm,rfl,rfl,hvm⟩:=hrel
    by_cases hlt:m<k
    ·have Hg:m<T.length:=by rw[jH.o.2.1];exact hlt
     have KC:m<X.size:=by rw[HXk.o];exact hlt
     have RP:X[m]=T[m]:=by
      have:=iR X m KC;rw[AU.o,List.getElem?_eq_getElem Hg]at this;exact(Option.some.inj this).symm
     have cm:=HC.o m KC;have hdg:=uY (List.all_eq_true.1 jH.o.1 T[m] (List.getElem_mem Hg));have hvt:=RI T m Hg;have hv0:0<=aY (T.take m):=Ea _ (List.all_eq_true.2 (fun c hc=>List.all_eq_true.1 jH.o.1 c (List.mem_of_mem_take hc)));have hpre:aY (T.take (m+1))<=aY T:=by
      have:=QQ (T.take (m+1)) (T.drop (m+1)) (by rw[List.take_append_drop];exact jH.o.1);rw[List.take_append_drop]at this;exact this
     rw[RP]at cm;obtain⟨c,hc⟩:∃c:Int,c=(T[m].toNat:Int):=⟨_,rfl⟩;rw[<-hc]at cm hvt;obtain⟨v,hv⟩:∃v,v=aY (T.take m):=⟨_,rfl⟩;rw[<-hv]at hvt hv0 hvm;rw[<-hv];have hc0:48<=c/\c<=57:=by omega
     have r1:IntKind.i64.wrap (10*v)=10*v:=by rw[IntKind.wrap_i64];omega
     have r2:IntKind.u8.wrap (c-48)=c-48:=by rw[IntKind.wrap_u8];omega
     have r3:IntKind.i64.wrap (c-48)=c-48:=by rw[IntKind.wrap_i64];omega
     have r4:IntKind.i64.wrap (10*v+(c-48))=10*v+(c-48):=by rw[IntKind.wrap_i64];omega
     have KD:Hd (aY (T.take (m+1))=10*v+(c-48)/\aY (T.take (m+1))<=aY T):=⟨hvt,hpre⟩;clear hc hv RP hdg hvt hpre Hg KC
     by_cases hbig:999999999<10*v+(c-48)
     ·have HZ:Hd (E=3/\V=0/\Q=i):=by
       have h1:=KD.o;have:=HV.o;rw[if_pos (by omega)]at this;exact⟨(congrArg Prod.fst this).symm,(congrArg (·.2.1) this).symm,(congrArg (·.2.2) this).symm⟩
      go_wp2;refine bodyPost_ret (results_tmp2 rfl _ _ _) rfl ⟨?_,by rw[HZ.o.2.2];exact HRW.o.set i,bI bD.o _ _⟩;rw[HZ.o.1,HZ.o.2.1];rfl
     ·go_wp2
      go_round
      case rel=>exact⟨m+1,by omega,by go_num,by rw[KD.o.1],by rw[KD.o.1];omega⟩
      case measure=>simp[intOf];omega
    ·have hmk:m=k:=by omega
     have HTk:Hd (T.take m=T):=by show T.take m=T;rw[hmk];exact List.take_of_length_le (by rw[jH.o.2.1];exact Nat.le_refl _)
     have HZ:Hd (E=0/\V=aY (T.take m)/\Q=i+k):=by
      have:=HV.o;rw[HTk.o]at hvm ⊢;rw[if_neg (by omega)]at this;exact⟨(congrArg Prod.fst this).symm,(congrArg (·.2.1) this).symm,(congrArg (·.2.2) this).symm⟩
     clear hmk hm hvm;go_wp2;refine bodyPost_ret (results_tmp2 rfl _ _ _) rfl ⟨?_,by rw[HZ.o.2.2];exact HRW.o,bD.o⟩;rw[HZ.o.1,HZ.o.2.1];rfl
end Go.Proofs.YtiinliaoojfjaaaGreatDoor
