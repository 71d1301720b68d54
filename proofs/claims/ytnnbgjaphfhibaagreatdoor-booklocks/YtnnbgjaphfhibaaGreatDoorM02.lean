import Derived.Shelf.Strings.Prefix
import Derived.Test.YtnnbgjaphfhibaaGreatDoorProg
import Derived.Test.YtnnbgjaphfhibaaGreatDoorM01
import Derived.Shelf.Strconv.Clone
set_option linter.unusedVariables false
set_option linter.unusedSimpArgs false
set_option maxRecDepth 100000
set_option maxHeartbeats 6400000
open Go.Proofs.Tryz
namespace Go.Proofs
open Go.Shelf
def Tryz.lays99_ren:Go.Shelf.Ren:=⟨fun|99=>234|206=>170|n=>n,fun|22=>244|24=>150|25=>151|27=>87|28=>43|30=>76|32=>153|33=>113|37=>90|40=>300|41=>110|42=>274|46=>157|47=>156|48=>185|49=>338|51=>199|52=>198|53=>201|54=>200|55=>297|67=>120|69=>98|70=>89|71=>91|72=>92|73=>162|74=>93|75=>94|76=>95|77=>96|79=>288|80=>100|81=>164|83=>97|84=>160|85=>306|86=>307|100=>161|101=>49|103=>152|104=>34|105=>289|106=>290|108=>315|111=>165|114=>251|119=>301|126=>298|127=>121|128=>299|131=>80|135=>207|137=>302|138=>303|139=>304|143=>317|144=>318|145=>319|164=>158|165=>159|166=>260|167=>305|168=>308|169=>309|170=>310|171=>202|172=>203|173=>204|174=>205|175=>311|176=>312|182=>192|183=>193|188=>255|189=>256|190=>257|191=>258|192=>259|209=>313|210=>314|211=>252|212=>253|213=>254|214=>316|218=>245|219=>246|220=>247|222=>249|224=>284|225=>285|228=>281|229=>282|231=>295|232=>293|233=>294|238=>320|239=>321|240=>322|241=>323|242=>324|243=>326|244=>174|245=>327|246=>328|247=>329|248=>330|249=>331|n=>n,fun|1=>7|3=>10|4=>11|15=>12|16=>13|17=>5|18=>8|19=>9|n=>n⟩
theorem Tryz.lays99:Go.Proofs.Lays.n99 prog Tryz.lays99_ren:={
 mixed:=by kernel_rfl
 f99:=func234.trans (congrArg some (by kernel_rfl))
 f206:=func170.trans (congrArg some (by kernel_rfl))
 t3:=underlying3
 a3:=isAgg3
 z3:=sizeOf3
 v3:=zeroValue3
 t4:=underlying4
 a4:=isAgg4
 z4:=sizeOf4
 v4:=zeroValue4
 t9:=underlying9
 a9:=isAgg9
 z9:=sizeOf9
 v9:=zeroValue9 }
end Go.Proofs
namespace Go.Proofs.YtnnbgjaphfhibaaGreatDoor
open Go.RowKit
theorem PW(c:UInt8)(w:World):Calls prog 235 #[.int .u8 (c.toNat:Int)] w fun e w'=>e=.returned (.bool (bg c))/\w'=w:=by
 go_enter func235,ntmps235;go_wp2_with (go_at_call 224;refine(xy _ _).mono ?_;rintro e w' ⟨rfl,rfl⟩)
 all_goals go_ret
 all_goals (refine⟨bV ?_,rfl⟩;rw[Bool.eq_iff_iff];unfold bg;simp_all;try omega)
def RS(b:Nat)(s:ByteArray)(i:Nat)(w:World):Prop:=∃t,w.heap[b]?=some (.cells #[.string s,.int .i64 (i:Int)] t (0,0))
theorem RS.c0{b:Nat}{s:ByteArray}{i:Nat}{w:World}(h:RS b s i w):w.cell? ⟨b,0,none⟩=some (.string s):=by obtain⟨t,h⟩:=h;rw[af h];rfl
theorem RS.c1{b:Nat}{s:ByteArray}{i:Nat}{w:World}(h:RS b s i w):w.cell? ⟨b,1,none⟩=some (.int .i64 (i:Int)):=by obtain⟨t,h⟩:=h;rw[af h];rfl
theorem RS.f1{b:Nat}{s:ByteArray}{i:Nat}{w:World}(h:RS b s i w):w.frozen? ⟨b,1,none⟩=false:=by obtain⟨t,h⟩:=h;exact Lib.frozen_of_heap h 1
theorem RS.drew{b:Nat}{s:ByteArray}{i:Nat}{w:World}(h:RS b s i w)(n:Nat):RS b s i (w.drewN n):=h
theorem RS.set{b:Nat}{s:ByteArray}{i:Nat}{w:World}(h:RS b s i w)(j:Nat):RS b s j (w.setCell ⟨b,1,none⟩ (.int .i64 (j:Int))):=by
 obtain⟨t,h⟩:=h;exact⟨t,by simp[World.setCell,Array.getElem?_modify,h]⟩
theorem XF(s p:ByteArray)(w:World) :
  Calls prog 234 #[.string s,.string p] w fun e w'=>e=.returned (.bool (Lib.hasPrefix s.data.toList p.data.toList))/\w'=w:=Any.strings_HasPrefix Tryz.lays99 s p w
theorem next_any(b:Nat)(s t:ByteArray)(i:Nat)(w:World)(hi:i<=s.size)(h:RS b s i w) :
  Calls prog 222 #[.pointer (some ⟨b,0,none⟩),.string t] w fun e w'=>e=.returned (.bool (Lib.hasPrefix (s.data.toList.drop i) t.data.toList))/\∃n,w'=w.drewN n:=by
 have h0:=h.c0;have h1:=h.c1;obtain⟨X,hX⟩:∃X:ByteArray,X=⟨(s.data.toList.drop i).toArray⟩:=⟨_,rfl⟩;have sl:∀wx,(Instr.slice 9 (.string s) (some (.int .i64 (i:Int))) none none).run prog wx=.ok (.string X) wx:=fun wx=>by rw[hX];exact Xl s i hi wx
 obtain⟨p,hp⟩:=zN (Lib.hasPrefix (s.data.toList.drop i) t.data.toList);have CP:Hd (∀w,Calls prog 234 #[.string X,.string t] w fun e w'=>e=.returned (.bool p)/\w'=w):=fun w=>by
  rw[<-hp];have:=XF X t w;rw[hX]at this ⊢;exact this
 rw[hp];clear h hX hp hi;go_enter func222,ntmps222;go_wp2;go_quiet (first|(go_at_call 234;exact Calls.quiet_of_same (CP.o _)));go_wp2;go_ret;exact⟨rfl,_,rfl⟩
theorem take_any(b:Nat)(s t:ByteArray)(i:Nat)(w:World)(hi:i<=s.size)(h:RS b s i w)(hs:s.size<2 ^ 62)(ht:t.size<2 ^ 62) :
  Calls prog 205 #[.pointer (some ⟨b,0,none⟩),.string t] w fun e w'=>e=.returned (.bool (Lib.hasPrefix (s.data.toList.drop i) t.data.toList))/\RS b s (if Lib.hasPrefix (s.data.toList.drop i) t.data.toList then i+t.size else i) w'/\w.grownBy w' (some b):=by
 obtain⟨p,hp⟩:=zN (Lib.hasPrefix (s.data.toList.drop i) t.data.toList);have CN:Hd (Calls prog 222 #[.pointer (some ⟨b,0,none⟩),.string t] w fun e w'=>e=.returned (.bool p)/\∃n,w'=w.drewN n):=by
  show Calls _ _ _ _ _;rw[<-hp];exact next_any b s t i w hi h
 rw[hp];have HR:Hd (RS b s i w):=h;have hw:IntKind.i64.wrap ((i:Int)+(t.size:Int))=((i+t.size:Nat):Int):=by rw[IntKind.wrap_i64];omega
 clear hp h hs ht hi
 cases p with
 | true =>
  go_enter func205,ntmps205;go_wp2_with (go_at_call 222;refine CN.o.mono ?_);rintro e w1 ⟨rfl,n,hn⟩;have HR1:Hd (RS b s i w1):=by show RS b s i w1;rw[hn];exact HR.o.drew n
  have ay:Hd (w.grownBy w1 (some b)):=by show w.grownBy w1 (some b);rw[hn];exact aj (ax w _) n
  have d1:=HR1.o.c1;have df:=HR1.o.f1;clear hn;go_wp2;go_ret;exact⟨rfl,HR1.o.set (i+t.size),aQ ay.o _ _⟩
 | false =>
  go_enter func205,ntmps205;go_wp2_with (go_at_call 222;refine CN.o.mono ?_);rintro e w1 ⟨rfl,n,hn⟩;have HR1:Hd (RS b s i w1):=by show RS b s i w1;rw[hn];exact HR.o.drew n
  have ay:Hd (w.grownBy w1 (some b)):=by show w.grownBy w1 (some b);rw[hn];exact aj (ax w _) n
  clear hn;go_wp2;go_ret;exact⟨rfl,HR1.o,ay.o⟩
theorem XG(b:Nat)(s:ByteArray)(i:Nat)(w:World)(h:RS b s i w) :
  Calls prog 169 #[.pointer (some ⟨b,0,none⟩)] w fun e w'=>e=.returned (.bool (decide (i=s.size)))/\∃n,w'=w.drewN n:=by
 have h0:=h.c0;have h1:=h.c1;clear h
 by_cases hc:i=s.size
 ·have hd:((i:Int) == (s.size:Int))=true:=by simp;omega
  have HD:Hd (decide (i=s.size)=true):=decide_eq_true hc;rw[HD.o];clear hc;go_enter func169,ntmps169;go_wp2;go_quiet (fail);go_wp2;go_ret;exact⟨rfl,_,rfl⟩
 ·have hd:((i:Int) == (s.size:Int))=false:=by simp;omega
  have HD:Hd (decide (i=s.size)=false):=decide_eq_false hc;rw[HD.o];clear hc;go_enter func169,ntmps169;go_wp2;go_quiet (fail);go_wp2;go_ret;exact⟨rfl,_,rfl⟩
theorem PX(l:List UInt8)(i:Nat)(c:UInt8):Lib.hasPrefix (l.drop i) [c]=decide (l[i]?=some c):=by
 have e:l[i]?=(l.drop i)[0]?:=by rw[List.getElem?_drop];rfl
 rw[e]
 cases l.drop i with
 | nil=>rfl
 | cons x r =>
  show(c == x && true)=decide (some x=some c);rw[Bool.and_true]
  by_cases h:x=c
  ·subst h;rw[decide_eq_true rfl];exact beq_self_eq_true x
  ·rw[decide_eq_false (fun e=>h (Option.some.inj e))];exact beq_eq_false_iff_ne.2 (fun e=>h e.symm)
theorem Ar(b:Nat)(s:ByteArray)(i:Nat)(c:UInt8)(w:World)(hc:s.data.toList[i]?=some c)(h:RS b s i w)(hs:s.size<2 ^ 62) :
  Calls prog 205 #[.pointer (some ⟨b,0,none⟩),.string ⟨#[c]⟩] w fun e w'=>e=.returned (.bool true)/\RS b s (i+1) w'/\w.grownBy w' (some b):=by
 have hlt:i<s.size:=by have:=(List.getElem?_eq_some_iff.1 hc).1;simpa using this
 have:=take_any b s ⟨#[c]⟩ i w (Nat.le_of_lt hlt) h hs (by show 1 < _;decide);rw[show(ByteArray.mk #[c]).data.toList=[c] from rfl,PX,decide_eq_true hc]at this;exact this
theorem Au(b:Nat)(s:ByteArray)(i:Nat)(c:UInt8)(w:World)(hi:i<=s.size)(hc:¬s.data.toList[i]?=some c)(h:RS b s i w)(hs:s.size<2 ^ 62) :
  Calls prog 205 #[.pointer (some ⟨b,0,none⟩),.string ⟨#[c]⟩] w fun e w'=>e=.returned (.bool false)/\RS b s i w'/\w.grownBy w' (some b):=by
 have:=take_any b s ⟨#[c]⟩ i w hi h hs (by show 1 < _;decide);rw[show(ByteArray.mk #[c]).data.toList=[c] from rfl,PX,decide_eq_false hc]at this;exact this
open Go.RowKit
def placeOf(b:Nat)(w:World):Nat:=match w.cell? ⟨b,1,none⟩ with|some (.int .i64 x)=>x.toNat|_=>0
theorem RS.place{b:Nat}{s:ByteArray}{i:Nat}{w:World}(h:RS b s i w):placeOf b w=i:=by unfold placeOf;rw[h.c1];simp
theorem XH(b:Nat)(s:ByteArray)(i:Nat)(w:World)(hi:i<=s.size)(h:RS b s i w)(hs:s.size<2 ^ 62) :
  Calls prog 223 #[.pointer (some ⟨b,0,none⟩),.func (.func 224) #[] #[]] w fun e w'=>e=.returned (.string ⟨(ag s.data.toList i (runN aI s.data.toList i)).toArray⟩)/\RS b s (i+runN aI s.data.toList i) w'/\w.grownBy w' (some b):=by
 have h0:=h.c0;have h1:=h.c1;have HR:Hd (RS b s i w):=h;obtain⟨N,hN⟩:=zN (i+runN aI s.data.toList i);have HN:Hd (N<=s.size):=by
  show N<=s.size;have:=rH aI s.data.toList i (by simpa using hi);simp at this;omega
 have HA:Hd (∀j,i<=j->(hj:j<s.size)->j<N->aI s[j]=true):=by
  show ∀j,i<=j->(hj:j<s.size)->j<N->aI s[j]=true;intro j h1 hj h2;obtain⟨g1,g2⟩:=IZ aI s.data.toList i (j-i) (by omega);have e:i+(j-i)=j:=by omega
  simp only[e]at g2;exact g2
 have HS:Hd (∀hj:N<s.size,aI s[N]=false):=by
  show ∀hj:N<s.size,aI s[N]=false;intro hj;have:=EG aI s.data.toList i (by rw[hN];simpa using hj);simp only[hN]at this;exact this
 have HT:Hd (runN aI s.data.toList i=N-i/\i<=N):=⟨by omega,by omega⟩;have HI:Hd (i<=s.size):=hi;rw[show runN aI s.data.toList i=N-i by omega];obtain⟨X,hX⟩:∃X:List UInt8,X=ag s.data.toList i (N-i):=⟨_,rfl⟩;have hsl:∀wx,(Instr.slice 9 (.string s) (some (.int .i64 (i:Int))) (some (.int .i64 (N:Int))) none).run prog wx=.ok (.string ⟨X.toArray⟩) wx:=fun wx=>by rw[hX];exact lC s i N (by omega) HN.o wx
 rw[<-hX,show i+(N-i)=N by omega];clear h hN hi hX;go_enter func223,ntmps223;go_wp2;go_loopw [] (fun wr=>∃j:Nat,i<=j/\j<=N/\RS b s j wr/\w.grownBy wr (some b)) (fun wr=>s.size-placeOf b wr)
 case atStart=>exact⟨i,Nat.le_refl _,HT.o.2,HR.o,ax _ _⟩
 case round =>
  obtain⟨j,hij,hjn,hrs,hgb⟩:=hrel;have d0:=hrs.c0;have d1:=hrs.c1;have df:=hrs.f1;have dm:Hd (RS b s j wr):=hrs;have aH:Hd (w.grownBy wr (some b)):=hgb;have hns:=HN.o;clear hrs hgb h0 h1
  by_cases hlt:j<N
  ·have hjs:j<s.size:=by omega
   have hD:aI s[j]=true:=HA.o j hij hjs hlt;have HK:Hd (i<=j/\j<N):=⟨hij,hlt⟩;clear hlt hjn hns hij;have hlt2:(j:Int)<(s.size:Int):=by omega
   go_wp2;go_quiet (first|(go_at_call 224;exact Calls.quiet_of_same (xy _ _)));go_wp2;go_roundw
   case rel =>
    have:=HK.o;exact⟨j+1,by omega,by omega,(dm.o.drew _).set (j+1),aQ (aj aH.o _) _ _⟩
   case measure =>
    have e1:=dm.o.place;have e2:=((dm.o.drew nq).set (j+1)).place;rw[e1];exact Nat.lt_of_le_of_lt (Nat.le_of_eq (congrArg (s.size - ·) e2)) (by omega)
  ·have hjN:j=N:=by omega
   subst hjN
   by_cases hjs:j<s.size
   ·have hD:aI s[j]=false:=HS.o hjs;have hlt2:(j:Int)<(s.size:Int):=by omega
    clear hlt hjn hns hij;go_wp2;go_quiet (first|(go_at_call 224;exact Calls.quiet_of_same (xy _ _)));go_wp2;obtain⟨W,hW⟩:=zN (wr.drewN nq);have e0:W.cell? ⟨b,0,none⟩=some (.string s):=by rw[<-hW];exact d0
    have e1:W.cell? ⟨b,1,none⟩=some (.int .i64 (j:Int)):=by rw[<-hW];exact d1
    have HW:Hd (RS b s j W/\w.grownBy W (some b)):=by
     show RS b s j W/\w.grownBy W (some b);rw[<-hW];exact⟨dm.o.drew _,aj aH.o _⟩
    rw[hW];clear hW d0 d1 df dm aH;go_quiet (fail);go_wp2;go_ret;exact⟨rfl,HW.o.1.drew _,aj HW.o.2 _⟩
   ·have hd2:decide ((j:Int)<(s.size:Int))=false:=by simp;omega
    clear hlt hjn hns hij;go_wp2;go_quiet (fail);go_wp2;obtain⟨W,hW⟩:=zN (wr.drewN nq);have e0:W.cell? ⟨b,0,none⟩=some (.string s):=by rw[<-hW];exact d0
    have e1:W.cell? ⟨b,1,none⟩=some (.int .i64 (j:Int)):=by rw[<-hW];exact d1
    have HW:Hd (RS b s j W/\w.grownBy W (some b)):=by
     show RS b s j W/\w.grownBy W (some b);rw[<-hW];exact⟨dm.o.drew _,aj aH.o _⟩
    rw[hW];clear hW d0 d1 df dm aH;go_quiet (fail);go_wp2;go_ret;exact⟨rfl,HW.o.1.drew _,aj HW.o.2 _⟩
theorem run_parts(b:Nat)(s:ByteArray)(i:Nat)(w:World)(hi:i<=s.size)(h:RS b s i w)(hs:s.size<2 ^ 62) :
  Calls prog 223 #[.pointer (some ⟨b,0,none⟩),.func (.func 235) #[] #[]] w fun e w'=>e=.returned (.string ⟨(ag s.data.toList i (runN bg s.data.toList i)).toArray⟩)/\RS b s (i+runN bg s.data.toList i) w'/\w.grownBy w' (some b):=by
 have h0:=h.c0;have h1:=h.c1;have HR:Hd (RS b s i w):=h;obtain⟨N,hN⟩:=zN (i+runN bg s.data.toList i);have HN:Hd (N<=s.size):=by
  show N<=s.size;have:=rH bg s.data.toList i (by simpa using hi);simp at this;omega
 have HA:Hd (∀j,i<=j->(hj:j<s.size)->j<N->bg s[j]=true):=by
  show ∀j,i<=j->(hj:j<s.size)->j<N->bg s[j]=true;intro j h1 hj h2;obtain⟨g1,g2⟩:=IZ bg s.data.toList i (j-i) (by omega);have e:i+(j-i)=j:=by omega
  simp only[e]at g2;exact g2
 have HS:Hd (∀hj:N<s.size,bg s[N]=false):=by
  show ∀hj:N<s.size,bg s[N]=false;intro hj;have:=EG bg s.data.toList i (by rw[hN];simpa using hj);simp only[hN]at this;exact this
 have HT:Hd (runN bg s.data.toList i=N-i/\i<=N):=⟨by omega,by omega⟩;have HI:Hd (i<=s.size):=hi;rw[show runN bg s.data.toList i=N-i by omega];obtain⟨X,hX⟩:∃X:List UInt8,X=ag s.data.toList i (N-i):=⟨_,rfl⟩;have hsl:∀wx,(Instr.slice 9 (.string s) (some (.int .i64 (i:Int))) (some (.int .i64 (N:Int))) none).run prog wx=.ok (.string ⟨X.toArray⟩) wx:=fun wx=>by rw[hX];exact lC s i N (by omega) HN.o wx
 rw[<-hX,show i+(N-i)=N by omega];clear h hN hi hX;go_enter func223,ntmps223;go_wp2;go_loopw [] (fun wr=>∃j:Nat,i<=j/\j<=N/\RS b s j wr/\w.grownBy wr (some b)) (fun wr=>s.size-placeOf b wr)
 case atStart=>exact⟨i,Nat.le_refl _,HT.o.2,HR.o,ax _ _⟩
 case round =>
  obtain⟨j,hij,hjn,hrs,hgb⟩:=hrel;have d0:=hrs.c0;have d1:=hrs.c1;have df:=hrs.f1;have dm:Hd (RS b s j wr):=hrs;have aH:Hd (w.grownBy wr (some b)):=hgb;have hns:=HN.o;clear hrs hgb h0 h1
  by_cases hlt:j<N
  ·have hjs:j<s.size:=by omega
   have hD:bg s[j]=true:=HA.o j hij hjs hlt;have HK:Hd (i<=j/\j<N):=⟨hij,hlt⟩;clear hlt hjn hns hij;have hlt2:(j:Int)<(s.size:Int):=by omega
   go_wp2;go_quiet (first|(go_at_call 235;exact Calls.quiet_of_same (PW _ _)));go_wp2;go_roundw
   case rel =>
    have:=HK.o;exact⟨j+1,by omega,by omega,(dm.o.drew _).set (j+1),aQ (aj aH.o _) _ _⟩
   case measure =>
    have e1:=dm.o.place;have e2:=((dm.o.drew nq).set (j+1)).place;rw[e1];exact Nat.lt_of_le_of_lt (Nat.le_of_eq (congrArg (s.size - ·) e2)) (by omega)
  ·have hjN:j=N:=by omega
   subst hjN
   by_cases hjs:j<s.size
   ·have hD:bg s[j]=false:=HS.o hjs;have hlt2:(j:Int)<(s.size:Int):=by omega
    clear hlt hjn hns hij;go_wp2;go_quiet (first|(go_at_call 235;exact Calls.quiet_of_same (PW _ _)));go_wp2;obtain⟨W,hW⟩:=zN (wr.drewN nq);have e0:W.cell? ⟨b,0,none⟩=some (.string s):=by rw[<-hW];exact d0
    have e1:W.cell? ⟨b,1,none⟩=some (.int .i64 (j:Int)):=by rw[<-hW];exact d1
    have HW:Hd (RS b s j W/\w.grownBy W (some b)):=by
     show RS b s j W/\w.grownBy W (some b);rw[<-hW];exact⟨dm.o.drew _,aj aH.o _⟩
    rw[hW];clear hW d0 d1 df dm aH;go_quiet (fail);go_wp2;go_ret;exact⟨rfl,HW.o.1.drew _,aj HW.o.2 _⟩
   ·have hd2:decide ((j:Int)<(s.size:Int))=false:=by simp;omega
    clear hlt hjn hns hij;go_wp2;go_quiet (fail);go_wp2;obtain⟨W,hW⟩:=zN (wr.drewN nq);have e0:W.cell? ⟨b,0,none⟩=some (.string s):=by rw[<-hW];exact d0
    have e1:W.cell? ⟨b,1,none⟩=some (.int .i64 (j:Int)):=by rw[<-hW];exact d1
    have HW:Hd (RS b s j W/\w.grownBy W (some b)):=by
     show RS b s j W/\w.grownBy W (some b);rw[<-hW];exact⟨dm.o.drew _,aj aH.o _⟩
    rw[hW];clear hW d0 d1 df dm aH;go_quiet (fail);go_wp2;go_ret;exact⟨rfl,HW.o.1.drew _,aj HW.o.2 _⟩
open Go.RowKit
theorem yP{a:ByteArray}(h:a.size=0):a.toList.isEmpty=true:=by
 rw[Lib.toList_data,List.isEmpty_iff];exact List.length_eq_zero_iff.1 (by simpa using h)
theorem yQ{a:ByteArray}(h:a.size≠0):a.toList.isEmpty=false:=by
 rw[Lib.toList_data]
 cases hl:a.data.toList with
 | nil=>exact absurd (show a.size=0 from by show a.data.size=0;rw[<-Array.length_toList,hl];rfl) h
 | cons c l=>rfl
theorem RS.grow{b:Nat}{s:ByteArray}{i:Nat}{w w':World}(h:RS b s i w)(hg:w.grownBy w' none):RS b s i w':=by
 obtain⟨t,h⟩:=h;exact⟨t,by rw[hg.block b ((jU h)) (by simp)];exact h⟩
theorem PY(s:ByteArray)(w:World):Calls prog 225 #[.string s] w fun e w'=>e=.returned (.bool (decide (1<s.data.toList.length) && decide (s.data.toList[0]?=some 48)))/\w'=w:=by
 by_cases h1:1<s.size
 ·have h0:0<s.size:=by omega
  have hl:decide (1<s.data.toList.length)=true:=by simp;exact h1
  rw[hl,Bool.true_and,kJ s 0 h0]
  cases hz:((s[0].toNat:Int) == 48) with
  | true =>
   have hc:s[0]=48:=UInt8.toNat_inj.1 (by have:=eq_of_beq hz;have e48:(48:UInt8).toNat=48:=rfl;omega);have HZ:Hd (decide (some s[0]=some (48:UInt8))=true):=by show decide _=true;rw[hc];rfl
   rw[HZ.o];clear hc hl;go_enter func225,ntmps225;go_wp2;go_ret;exact⟨rfl,rfl⟩
  | false =>
   have HZ:Hd (decide (some s[0]=some (48:UInt8))=false):=by
    show decide _=false;apply decide_eq_false;intro e;rw[Option.some.inj e]at hz;exact absurd hz (by decide)
   rw[HZ.o];clear hl;go_enter func225,ntmps225;go_wp2;go_ret;exact⟨rfl,rfl⟩
 ·have hl:decide (1<s.data.toList.length)=false:=by simp;exact Nat.le_of_not_lt h1
  rw[hl,Bool.false_and];clear hl;go_enter func225,ntmps225;go_wp2;go_ret;exact⟨rfl,rfl⟩
theorem XI(b:Nat)(s:ByteArray)(i:Nat)(w:World)(hi:i<=s.size)(h:RS b s i w)(hs:s.size<2 ^ 62) :
  Calls prog 226 #[.pointer (some ⟨b,0,none⟩),.int .i64 0] w fun e w'=>e=.returned (.int .i64 (aC true s.data.toList i).1)/\RS b s (aC true s.data.toList i).2 w'/\w.grownBy w' (some b):=by
 have HI:Hd (RS b s i w/\i<=s.size):=⟨h,hi⟩;obtain⟨E,Q,jC⟩:∃E Q,aC true s.data.toList i=(E,Q):=⟨_,_,rfl⟩;rw[jC];have xE:Hd (aC true s.data.toList i=(E,Q)):=jC;have hsl:s.data.toList.length=s.size:=by simp
 have ji:Hd (s.data.toList.length=s.size):=hsl;clear h hi jC hsl;go_enter func226,ntmps226;go_wp2;go_loopw [] (fun wr=>∃j:Nat,j<=s.size/\RS b s j wr/\w.grownBy wr (some b)/\aC true s.data.toList j=(E,Q)) (fun wr=>s.size-placeOf b wr)
 case atStart=>exact⟨i,HI.o.2,HI.o.1,ax _ _,xE.o⟩
 case round =>
  obtain⟨j,hj,hrs,hgb,hrd⟩:=hrel;have CR:Hd (Calls prog 223 #[.pointer (some ⟨b,0,none⟩),.func (.func 235) #[] #[]] wr fun e w'=>e=.returned (.string ⟨(ag s.data.toList j (runN bg s.data.toList j)).toArray⟩)/\RS b s (j+runN bg s.data.toList j) w'/\wr.grownBy w' (some b)):=run_parts b s j wr hj hrs hs;have eG:Hd (placeOf b wr=j):=hrs.place;have d1:=hrs.c1;have hle:j+runN bg s.data.toList j<=s.size:=by have:=rH bg s.data.toList j (by rw[ji.o];exact hj);rw[ji.o]at this;exact this
  have hln:=tN s.data.toList j (runN bg s.data.toList j) (by rw[ji.o];exact hle);rw[EI]at hrd;obtain⟨k,hk⟩:=zN (runN bg s.data.toList j);rw[hk]at CR hrd hle hln;obtain⟨T,hT⟩:=zN (ag s.data.toList j k);rw[hT]at CR hrd hln;obtain⟨X,hX⟩:∃X:ByteArray,X=⟨T.toArray⟩:=⟨_,rfl⟩;rw[<-hX]at CR;have yR:Hd (X.data.toList=T):=by show X.data.toList=T;rw[hX]
  have gu:X.size=k:=by rw[hX];show T.toArray.size=k;simpa using hln
  have aH:Hd (w.grownBy wr (some b)):=hgb;have dm:Hd (RS b s j wr):=hrs;have dB:Hd ((if k=0 then(2,j) else if jd true T=true then(2,j) else if s.data.toList[j+k]?=some 46 then aC true s.data.toList (j+k+1) else(0,j+k))=(E,Q)):=hrd;clear hk hT hX hgb hrs hrd hln
  by_cases hk0:k=0
  ·have e1:=yP (gu.trans hk0);have HZ:Hd (E=2/\Q=j):=by
    have:=dB.o;rw[if_pos hk0]at this;exact⟨(congrArg Prod.fst this).symm,(congrArg Prod.snd this).symm⟩
   have HK:Hd (k=0):=hk0;clear hk0 gu hle;go_wp2_with (go_at_call 223;refine CR.o.mono ?_);rintro e w1 ⟨rfl,hr1,hg1⟩;have HF:Hd (RS b s Q w1/\w.grownBy w1 (some b)):=by
    refine⟨?_,ah aH.o hg1⟩;rw[HZ.o.2];rw[HK.o]at hr1;exact hr1
   clear hr1 hg1;go_wp2;go_ret;exact⟨dD HZ.o.1.symm,HF.o.1,HF.o.2⟩
  ·have e1:=yQ (fun h=>hk0 (gu.symm.trans h));have o6:Hd (X.data.toList.isEmpty=false):=by show X.data.toList.isEmpty=false;rw[<-Lib.toList_data];exact e1
   have HK:Hd (¬k=0):=hk0;have PZ:X.size<2 ^ 62:=by omega
   have EO:Hd (j+k<=s.size):=hle;clear hk0 gu hle;go_wp2_with (go_at_call 223;refine CR.o.mono ?_);rintro e w1 ⟨rfl,hr1,hg1⟩;have HR1:Hd (RS b s (j+k) w1):=hr1;have ay:Hd (w.grownBy w1 (some b)):=ah aH.o hg1;clear hr1 hg1;have CD:Hd (∀w,Calls prog 236 #[.string X] w fun e w'=>e=.returned (.bool (oq X.data.toList))/\w.grownBy w' none):=fun w=>PG X w PZ
   obtain⟨dX,Jc⟩:∃d,oq X.data.toList=d:=⟨_,rfl⟩;rw[Jc]at CD;have XJ:Hd (T.all aI=dX):=by
    show T.all aI=dX;rw[<-Jc];unfold oq;rw[o6.o,yR.o];rfl
   obtain⟨z,hz⟩:=zN ((decide (1<X.data.toList.length) && decide (X.data.toList[0]?=some 48)));have CZ:Hd (∀w,Calls prog 225 #[.string X] w fun e w'=>e=.returned (.bool z)/\w'=w):=fun w=>by rw[<-hz];exact PY X w
   have dW:Hd (jd true T=(dX && z)):=by
    show jd true T=_;rw[<-hz,<-XJ.o,yR.o];rfl
   clear Jc hz;go_wp2_with (go_at_call 236;refine(CD.o _).mono ?_);rintro e w2 ⟨rfl,hg2⟩;replace HR1:Hd (RS b s (j+k) w2):=HR1.o.grow hg2;replace ay:Hd (w.grownBy w2 (some b)):=ah ay.o (EK hg2 _);clear hg2
   cases dX with
   | false =>
    have HB:Hd (jd true T=false):=by show jd true T=false;rw[dW.o];rfl
    cases hc:decide (s.data.toList[j+k]?=some 46) with
    | true =>
     have hc':=of_decide_eq_true hc;have HT:Hd (aC true s.data.toList (j+k+1)=(E,Q)):=by
      have:=dB.o;rw[if_neg HK.o,if_neg (by rw[HB.o];simp),if_pos hc']at this;exact this
     have CT:Hd (Calls prog 205 #[.pointer (some ⟨b,0,none⟩),.string ⟨#[46]⟩] w2 fun e w'=>e=.returned (.bool true)/\RS b s (j+k+1) w'/\w2.grownBy w' (some b)):=Ar b s (j+k) 46 w2 hc' HR1.o hs;have cZ:Hd (j+k<s.size):=by have:=(List.getElem?_eq_some_iff.1 hc').1;rw[ji.o]at this;exact this
     clear hc hc';go_wp2_with (go_at_call 205;refine CT.o.mono ?_);rintro e w3 ⟨rfl,hr3,hg3⟩;have HF:Hd (RS b s (j+k+1) w3/\w.grownBy w3 (some b)):=⟨hr3,ah ay.o hg3⟩;clear hr3 hg3;go_wp2;go_roundw
     case rel=>exact⟨j+k+1,cZ.o,HF.o.1,HF.o.2,HT.o⟩
     case measure =>
      rw[eG.o,HF.o.1.place];have:=cZ.o;omega
    | false =>
     have hc':=of_decide_eq_false hc;have HT:Hd (E=0/\Q=j+k):=by
      have:=dB.o;rw[if_neg HK.o,if_neg (by rw[HB.o];simp),if_neg hc']at this;exact⟨(congrArg Prod.fst this).symm,(congrArg Prod.snd this).symm⟩
     have CT:Hd (Calls prog 205 #[.pointer (some ⟨b,0,none⟩),.string ⟨#[46]⟩] w2 fun e w'=>e=.returned (.bool false)/\RS b s (j+k) w'/\w2.grownBy w' (some b)):=Au b s (j+k) 46 w2 EO.o hc' HR1.o hs;clear hc hc';go_wp2_with (go_at_call 205;refine CT.o.mono ?_);rintro e w3 ⟨rfl,hr3,hg3⟩;have HF:Hd (RS b s (j+k) w3/\w.grownBy w3 (some b)):=⟨hr3,ah ay.o hg3⟩;clear hr3 hg3;go_wp2;go_ret;exact⟨dD HT.o.1.symm,by rw[HT.o.2];exact HF.o.1,HF.o.2⟩
   | true =>
    cases z with
    | true =>
     have HZ:Hd (E=2/\Q=j):=by
      have:=dB.o;rw[if_neg HK.o,if_pos (by rw[dW.o];rfl)]at this;exact⟨(congrArg Prod.fst this).symm,(congrArg Prod.snd this).symm⟩
     have f1:=HR1.o.c1;have f2:=HR1.o.f1;go_wp2_with (go_at_call 225;refine(CZ.o _).mono ?_;rintro e w' ⟨rfl,rfl⟩);go_ret;exact⟨dD HZ.o.1.symm,by rw[HZ.o.2];exact HR1.o.set j,aQ ay.o _ _⟩
    | false =>
     have HB:Hd (jd true T=false):=by show jd true T=false;rw[dW.o];rfl
     cases hc:decide (s.data.toList[j+k]?=some 46) with
     | true =>
      have hc':=of_decide_eq_true hc;have HT:Hd (aC true s.data.toList (j+k+1)=(E,Q)):=by
       have:=dB.o;rw[if_neg HK.o,if_neg (by rw[HB.o];simp),if_pos hc']at this;exact this
      have CT:Hd (Calls prog 205 #[.pointer (some ⟨b,0,none⟩),.string ⟨#[46]⟩] w2 fun e w'=>e=.returned (.bool true)/\RS b s (j+k+1) w'/\w2.grownBy w' (some b)):=Ar b s (j+k) 46 w2 hc' HR1.o hs;have cZ:Hd (j+k<s.size):=by have:=(List.getElem?_eq_some_iff.1 hc').1;rw[ji.o]at this;exact this
      clear hc hc';go_wp2_with (first|(go_at_call 225;refine(CZ.o _).mono ?_;rintro e w' ⟨rfl,rfl⟩)|(go_at_call 205;refine CT.o.mono ?_));rintro e w3 ⟨rfl,hr3,hg3⟩;have HF:Hd (RS b s (j+k+1) w3/\w.grownBy w3 (some b)):=⟨hr3,ah ay.o hg3⟩;clear hr3 hg3;go_wp2;go_roundw
      case rel=>exact⟨j+k+1,cZ.o,HF.o.1,HF.o.2,HT.o⟩
      case measure =>
       rw[eG.o,HF.o.1.place];have:=cZ.o;omega
     | false =>
      have hc':=of_decide_eq_false hc;have HT:Hd (E=0/\Q=j+k):=by
       have:=dB.o;rw[if_neg HK.o,if_neg (by rw[HB.o];simp),if_neg hc']at this;exact⟨(congrArg Prod.fst this).symm,(congrArg Prod.snd this).symm⟩
      have CT:Hd (Calls prog 205 #[.pointer (some ⟨b,0,none⟩),.string ⟨#[46]⟩] w2 fun e w'=>e=.returned (.bool false)/\RS b s (j+k) w'/\w2.grownBy w' (some b)):=Au b s (j+k) 46 w2 EO.o hc' HR1.o hs;clear hc hc';go_wp2_with (first|(go_at_call 225;refine(CZ.o _).mono ?_;rintro e w' ⟨rfl,rfl⟩)|(go_at_call 205;refine CT.o.mono ?_));rintro e w3 ⟨rfl,hr3,hg3⟩;have HF:Hd (RS b s (j+k) w3/\w.grownBy w3 (some b)):=⟨hr3,ah ay.o hg3⟩;clear hr3 hg3;go_wp2;go_ret;exact⟨dD HT.o.1.symm,by rw[HT.o.2];exact HF.o.1,HF.o.2⟩
theorem XK(b:Nat)(s:ByteArray)(i:Nat)(w:World)(hi:i<=s.size)(h:RS b s i w)(hs:s.size<2 ^ 62) :
  Calls prog 226 #[.pointer (some ⟨b,0,none⟩),.int .i64 1] w fun e w'=>e=.returned (.int .i64 (aC false s.data.toList i).1)/\RS b s (aC false s.data.toList i).2 w'/\w.grownBy w' (some b):=by
 have HI:Hd (RS b s i w/\i<=s.size):=⟨h,hi⟩;obtain⟨E,Q,jC⟩:∃E Q,aC false s.data.toList i=(E,Q):=⟨_,_,rfl⟩;rw[jC];have xE:Hd (aC false s.data.toList i=(E,Q)):=jC;have hsl:s.data.toList.length=s.size:=by simp
 have ji:Hd (s.data.toList.length=s.size):=hsl;clear h hi jC hsl;go_enter func226,ntmps226;go_wp2;go_loopw [] (fun wr=>∃j:Nat,j<=s.size/\RS b s j wr/\w.grownBy wr (some b)/\aC false s.data.toList j=(E,Q)) (fun wr=>s.size-placeOf b wr)
 case atStart=>exact⟨i,HI.o.2,HI.o.1,ax _ _,xE.o⟩
 case round =>
  obtain⟨j,hj,hrs,hgb,hrd⟩:=hrel;have CR:Hd (Calls prog 223 #[.pointer (some ⟨b,0,none⟩),.func (.func 235) #[] #[]] wr fun e w'=>e=.returned (.string ⟨(ag s.data.toList j (runN bg s.data.toList j)).toArray⟩)/\RS b s (j+runN bg s.data.toList j) w'/\wr.grownBy w' (some b)):=run_parts b s j wr hj hrs hs;have eG:Hd (placeOf b wr=j):=hrs.place;have d1:=hrs.c1;have hle:j+runN bg s.data.toList j<=s.size:=by have:=rH bg s.data.toList j (by rw[ji.o];exact hj);rw[ji.o]at this;exact this
  have hln:=tN s.data.toList j (runN bg s.data.toList j) (by rw[ji.o];exact hle);rw[EI]at hrd;obtain⟨k,hk⟩:=zN (runN bg s.data.toList j);rw[hk]at CR hrd hle hln;obtain⟨T,hT⟩:=zN (ag s.data.toList j k);rw[hT]at CR hrd hln;obtain⟨X,hX⟩:∃X:ByteArray,X=⟨T.toArray⟩:=⟨_,rfl⟩;rw[<-hX]at CR;have yR:Hd (X.data.toList=T):=by show X.data.toList=T;rw[hX]
  have gu:X.size=k:=by rw[hX];show T.toArray.size=k;simpa using hln
  have aH:Hd (w.grownBy wr (some b)):=hgb;have dm:Hd (RS b s j wr):=hrs;have dB:Hd ((if k=0 then(2,j) else if jd false T=true then(2,j) else if s.data.toList[j+k]?=some 46 then aC false s.data.toList (j+k+1) else(0,j+k))=(E,Q)):=hrd;clear hk hT hX hgb hrs hrd hln
  by_cases hk0:k=0
  ·have e1:=yP (gu.trans hk0);have HZ:Hd (E=2/\Q=j):=by
    have:=dB.o;rw[if_pos hk0]at this;exact⟨(congrArg Prod.fst this).symm,(congrArg Prod.snd this).symm⟩
   have HK:Hd (k=0):=hk0;clear hk0 gu hle;go_wp2_with (go_at_call 223;refine CR.o.mono ?_);rintro e w1 ⟨rfl,hr1,hg1⟩;have HF:Hd (RS b s Q w1/\w.grownBy w1 (some b)):=by
    refine⟨?_,ah aH.o hg1⟩;rw[HZ.o.2];rw[HK.o]at hr1;exact hr1
   clear hr1 hg1;go_wp2;go_ret;exact⟨dD HZ.o.1.symm,HF.o.1,HF.o.2⟩
  ·have e1:=yQ (fun h=>hk0 (gu.symm.trans h));have o6:Hd (X.data.toList.isEmpty=false):=by show X.data.toList.isEmpty=false;rw[<-Lib.toList_data];exact e1
   have HK:Hd (¬k=0):=hk0;have PZ:X.size<2 ^ 62:=by omega
   have EO:Hd (j+k<=s.size):=hle;clear hk0 gu hle;go_wp2_with (go_at_call 223;refine CR.o.mono ?_);rintro e w1 ⟨rfl,hr1,hg1⟩;have HR1:Hd (RS b s (j+k) w1):=hr1;have ay:Hd (w.grownBy w1 (some b)):=ah aH.o hg1;clear hr1 hg1;have HB:Hd (jd false T=false):=rfl
   cases hc:decide (s.data.toList[j+k]?=some 46) with
   | true =>
    have hc':=of_decide_eq_true hc;have HT:Hd (aC false s.data.toList (j+k+1)=(E,Q)):=by
     have:=dB.o;rw[if_neg HK.o,if_neg (by rw[HB.o];simp),if_pos hc']at this;exact this
    have CT:Hd (Calls prog 205 #[.pointer (some ⟨b,0,none⟩),.string ⟨#[46]⟩] w1 fun e w'=>e=.returned (.bool true)/\RS b s (j+k+1) w'/\w1.grownBy w' (some b)):=Ar b s (j+k) 46 w1 hc' HR1.o hs;have cZ:Hd (j+k<s.size):=by have:=(List.getElem?_eq_some_iff.1 hc').1;rw[ji.o]at this;exact this
    clear hc hc';go_wp2_with (go_at_call 205;refine CT.o.mono ?_);rintro e w3 ⟨rfl,hr3,hg3⟩;have HF:Hd (RS b s (j+k+1) w3/\w.grownBy w3 (some b)):=⟨hr3,ah ay.o hg3⟩;clear hr3 hg3;go_wp2;go_roundw
    case rel=>exact⟨j+k+1,cZ.o,HF.o.1,HF.o.2,HT.o⟩
    case measure =>
     rw[eG.o,HF.o.1.place];have:=cZ.o;omega
   | false =>
    have hc':=of_decide_eq_false hc;have HT:Hd (E=0/\Q=j+k):=by
     have:=dB.o;rw[if_neg HK.o,if_neg (by rw[HB.o];simp),if_neg hc']at this;exact⟨(congrArg Prod.fst this).symm,(congrArg Prod.snd this).symm⟩
    have CT:Hd (Calls prog 205 #[.pointer (some ⟨b,0,none⟩),.string ⟨#[46]⟩] w1 fun e w'=>e=.returned (.bool false)/\RS b s (j+k) w'/\w1.grownBy w' (some b)):=Au b s (j+k) 46 w1 EO.o hc' HR1.o hs;clear hc hc';go_wp2_with (go_at_call 205;refine CT.o.mono ?_);rintro e w3 ⟨rfl,hr3,hg3⟩;have HF:Hd (RS b s (j+k) w3/\w.grownBy w3 (some b)):=⟨hr3,ah ay.o hg3⟩;clear hr3 hg3;go_wp2;go_ret;exact⟨dD HT.o.1.symm,by rw[HT.o.2];exact HF.o.1,HF.o.2⟩
open Go.RowKit
theorem P5(T:List UInt8)(m:Nat)(hm:m<T.length):aW (T.take (m+1))=10*aW (T.take m)+((T[m].toNat:Int)-48):=by
 rw[List.take_succ_eq_append_getElem hm,PD];rfl
theorem XL(b:Nat)(s:ByteArray)(i:Nat)(w:World)(hi:i<=s.size)(h:RS b s i w)(hs:s.size<2 ^ 62) :
  Calls prog 206 #[.pointer (some ⟨b,0,none⟩)] w fun e w'=>e=.returned (.tuple #[.int .i64 (rdNum s.data.toList i).2.1,.int .i64 (rdNum s.data.toList i).1])/\RS b s (rdNum s.data.toList i).2.2 w'/\w.grownBy w' (some b):=by
 obtain⟨E,V,Q,jC⟩:∃E V Q,rdNum s.data.toList i=(E,V,Q):=⟨_,_,_,rfl⟩;rw[jC];have hsl:s.data.toList.length=s.size:=by simp
 have CR:Hd (Calls prog 223 #[.pointer (some ⟨b,0,none⟩),.func (.func 224) #[] #[]] w fun e w'=>e=.returned (.string ⟨(ag s.data.toList i (runN aI s.data.toList i)).toArray⟩)/\RS b s (i+runN aI s.data.toList i) w'/\w.grownBy w' (some b)):=XH b s i w hi h hs;have d1:=h.c1;have hle:i+runN aI s.data.toList i<=s.size:=by have:=rH aI s.data.toList i (by rw[hsl];exact hi);rw[hsl]at this;exact this
 have hln:=tN s.data.toList i (runN aI s.data.toList i) (by rw[hsl];exact hle);have hall:=EJ aI s.data.toList i;have hT0:∀k,0<k->i+k<=s.data.toList.length->(ag s.data.toList i k)[0]?=s.data.toList[i]?:=by
  intro k hk hik;unfold ag;rw[List.getElem?_take_of_lt hk,List.getElem?_drop];rfl
 unfold rdNum at jC;obtain⟨k,hk⟩:=zN (runN aI s.data.toList i);rw[hk]at CR jC hle hln hall;have Jd:=hT0 k;obtain⟨T,hT⟩:=zN (ag s.data.toList i k);rw[hT]at CR jC hln hall Jd;obtain⟨X,hX⟩:∃X:ByteArray,X=⟨T.toArray⟩:=⟨_,rfl⟩;rw[<-hX]at CR;have yR:Hd (X.data.toList=T):=by show X.data.toList=T;rw[hX]
 have gu:X.size=k:=by rw[hX];show T.toArray.size=k;simpa using hln
 have xE:Hd ((if k=0 then(2,0,i) else if 1<k/\s.data.toList[i]?=some 48 then(2,0,i) else if aW T > 999999999 then(3,0,i) else(0,aW T,i+k))=(E,V,Q)):=jC;have o7:Hd (T.all aI=true/\T.length=k/\(0<k->T[0]?=s.data.toList[i]?)):=⟨hall,hln,fun h=>Jd h (by rw[hsl];exact hle)⟩;clear hk hT hX jC hln hall hT0 Jd h hsl hi
 by_cases hk0:k=0
 ·have e1:=yP (gu.trans hk0);have HZ:Hd (E=2/\V=0/\Q=i+k):=by
   have:=xE.o;rw[if_pos hk0]at this;exact⟨(congrArg Prod.fst this).symm,(congrArg (·.2.1) this).symm,by rw[hk0];exact(congrArg (·.2.2) this).symm⟩
  clear hk0 gu hle;go_enter func206,ntmps206;go_wp2_with (go_at_call 223;refine CR.o.mono ?_);rintro e w1 ⟨rfl,hr1,hg1⟩;have HF:Hd (RS b s Q w1/\w.grownBy w1 (some b)):=⟨by rw[HZ.o.2.2];exact hr1,hg1⟩;clear hr1 hg1;go_wp2;refine bodyPost_ret (results_tmp2 rfl _ _ _) rfl ⟨?_,HF.o.1,HF.o.2⟩;rw[HZ.o.1,HZ.o.2.1];rfl
 ·have e1:=yQ (fun h=>hk0 (gu.symm.trans h));obtain⟨z,hz⟩:=zN ((decide (1<X.data.toList.length) && decide (X.data.toList[0]?=some 48)));have CZ:Hd (∀w,Calls prog 225 #[.string X] w fun e w'=>e=.returned (.bool z)/\w'=w):=fun w=>by rw[<-hz];exact PY X w
  have P6:Hd (z=decide (1<k/\s.data.toList[i]?=some 48)):=by
   show z=_;rw[<-hz,yR.o,o7.o.2.1,o7.o.2.2 (by omega)];rw[Bool.eq_iff_iff];simp
  have HK:Hd (¬k=0):=hk0;clear hz hk0;go_enter func206,ntmps206;go_wp2_with (go_at_call 223;refine CR.o.mono ?_);rintro e w1 ⟨rfl,hr1,hg1⟩;have HR1:Hd (RS b s (i+k) w1):=hr1;have ay:Hd (w.grownBy w1 (some b)):=hg1;have f1:=hr1.c1;have f2:=hr1.f1;clear hr1 hg1
  cases z with
  | true =>
   have HZ:Hd (E=2/\V=0/\Q=i):=by
    have:=xE.o;rw[if_neg HK.o,if_pos (of_decide_eq_true P6.o.symm)]at this;exact⟨(congrArg Prod.fst this).symm,(congrArg (·.2.1) this).symm,(congrArg (·.2.2) this).symm⟩
   go_wp2_with (go_at_call 225;refine(CZ.o _).mono ?_;rintro e w' ⟨rfl,rfl⟩);refine bodyPost_ret (results_tmp2 rfl _ _ _) rfl ⟨?_,by rw[HZ.o.2.2];exact HR1.o.set i,aQ ay.o _ _⟩;rw[HZ.o.1,HZ.o.2.1];rfl
  | false =>
   have HV:Hd ((if aW T > 999999999 then(3,0,i) else(0,aW T,i+k))=(E,V,Q)):=by
    have:=xE.o;rw[if_neg HK.o,if_neg (of_decide_eq_false P6.o.symm)]at this;exact this
   have kw:=Lib.run_convert_string_bytes (P:=prog) w1 9 90 5 X underlying9 underlying90 underlying5;obtain⟨W,hW⟩:=zN (Lib.bytesWorld w1 5 X);have HC:Hd (∀j,(hj:j<X.size)->W.cell? ⟨w1.heap.size,j,none⟩=some (.int .u8 (X[j].toNat:Int))):=by
    show ∀j,(hj:j<X.size)->W.cell? ⟨w1.heap.size,j,none⟩=some (.int .u8 (X[j].toNat:Int));intro j hj;rw[<-hW,Lib.bytesWorld_cell w1 _ X j hj];have:X.data.toList.getD j 0=X[j]:=by
     rw[List.getD_eq_getElem?_getD,kJ X j hj];rfl
    rw[this]
   have hgW:w1.grownBy W none:=by rw[<-hW];exact I9 w1 _ X
   rw[hW]at kw;have HRW:Hd (RS b s (i+k) W):=HR1.o.grow hgW;have iD:Hd (w.grownBy W (some b)):=ah ay.o (EK hgW _);have g1:=HRW.o.c1;have g2:=HRW.o.f1;clear hW hgW f1 f2;go_wp2_with (go_at_call 225;refine(CZ.o _).mono ?_;rintro e w' ⟨rfl,rfl⟩);have rO:Hd (X.size=k):=gu;have hks:k<2 ^ 62:=by omega
   clear gu hle
   go_loop [6,26] (fun vn vi=>∃m:Nat,m<=k/\vi=.int .i64 m/\vn=.int .i64 (aW (T.take m))/\aW (T.take m)<=999999999) (fun _ vi=>k-(intOf vi).toNat)
   case atStart=>exact⟨0,Nat.zero_le _,rfl,rfl,by show(0:Int)<=_;omega⟩
   case round =>
    obtain⟨m,hm,rfl,rfl,hvm⟩:=hrel
    by_cases hlt:m<k
    ·have EP:m<T.length:=by rw[o7.o.2.1];exact hlt
     have Je:m<X.size:=by rw[rO.o];exact hlt
     have P7:X[m]=T[m]:=by
      have:=kJ X m Je;rw[yR.o,List.getElem?_eq_getElem EP]at this;exact(Option.some.inj this).symm
     have cm:=HC.o m Je;have hdg:=yO (List.all_eq_true.1 o7.o.1 T[m] (List.getElem_mem EP));have hvt:=P5 T m EP;have hv0:0<=aW (T.take m):=EH _ (List.all_eq_true.2 (fun c hc=>List.all_eq_true.1 o7.o.1 c (List.mem_of_mem_take hc)));have hpre:aW (T.take (m+1))<=aW T:=by
      have:=PE (T.take (m+1)) (T.drop (m+1)) (by rw[List.take_append_drop];exact o7.o.1);rw[List.take_append_drop]at this;exact this
     rw[P7]at cm;obtain⟨c,hc⟩:∃c:Int,c=(T[m].toNat:Int):=⟨_,rfl⟩;rw[<-hc]at cm hvt;obtain⟨v,hv⟩:∃v,v=aW (T.take m):=⟨_,rfl⟩;rw[<-hv]at hvt hv0 hvm;rw[<-hv];have hc0:48<=c/\c<=57:=by omega
     have r1:IntKind.i64.wrap (10*v)=10*v:=by rw[IntKind.wrap_i64];omega
     have r2:IntKind.u8.wrap (c-48)=c-48:=by rw[IntKind.wrap_u8];omega
     have r3:IntKind.i64.wrap (c-48)=c-48:=by rw[IntKind.wrap_i64];omega
     have r4:IntKind.i64.wrap (10*v+(c-48))=10*v+(c-48):=by rw[IntKind.wrap_i64];omega
     have Jf:Hd (aW (T.take (m+1))=10*v+(c-48)/\aW (T.take (m+1))<=aW T):=⟨hvt,hpre⟩;clear hc hv P7 hdg hvt hpre EP Je
     by_cases hbig:999999999<10*v+(c-48)
     ·have HZ:Hd (E=3/\V=0/\Q=i):=by
       have h1:=Jf.o;have:=HV.o;rw[if_pos (by omega)]at this;exact⟨(congrArg Prod.fst this).symm,(congrArg (·.2.1) this).symm,(congrArg (·.2.2) this).symm⟩
      go_wp2;refine bodyPost_ret (results_tmp2 rfl _ _ _) rfl ⟨?_,by rw[HZ.o.2.2];exact HRW.o.set i,aQ iD.o _ _⟩;rw[HZ.o.1,HZ.o.2.1];rfl
     ·go_wp2
      go_round
      case rel=>exact⟨m+1,by omega,by go_num,by rw[Jf.o.1],by rw[Jf.o.1];omega⟩
      case measure=>simp[intOf];omega
    ·have hmk:m=k:=by omega
     have XM:Hd (T.take m=T):=by show T.take m=T;rw[hmk];exact List.take_of_length_le (by rw[o7.o.2.1];exact Nat.le_refl _)
     have HZ:Hd (E=0/\V=aW (T.take m)/\Q=i+k):=by
      have:=HV.o;rw[XM.o]at hvm ⊢;rw[if_neg (by omega)]at this;exact⟨(congrArg Prod.fst this).symm,(congrArg (·.2.1) this).symm,(congrArg (·.2.2) this).symm⟩
     clear hmk hm hvm;go_wp2;refine bodyPost_ret (results_tmp2 rfl _ _ _) rfl ⟨?_,by rw[HZ.o.2.2];exact HRW.o,iD.o⟩;rw[HZ.o.1,HZ.o.2.1];rfl
open Go.RowKit
structure G2(b v:Nat)(w w':World):Prop where
 os:w'.os=w.os
 tape:w'.tape=w.tape
 output:w'.output=w.output
 size:w.heap.size<=w'.heap.size
 block:∀k,k<w.heap.size->k≠b->k≠v->w'.heap[k]?=w.heap[k]?
theorem G2.refl(b v:Nat)(w:World):G2 b v w w:=⟨rfl,rfl,rfl,Nat.le_refl _,fun _ _ _ _=>rfl⟩
theorem G2.step{b v:Nat}{w w1 w2:World}(h:G2 b v w w1)(hg:w1.grownBy w2 (some b)):G2 b v w w2 :=
 ⟨hg.os.trans h.os,hg.tape.trans h.tape,hg.output.trans h.output,Nat.le_trans h.size hg.size,fun k hk h1 h2=>(hg.block k (Nat.lt_of_lt_of_le hk h.size) (by simpa using h1)).trans (h.block k hk h1 h2)⟩
theorem G2.drew{b v:Nat}{w w1:World}(h:G2 b v w w1)(n:Nat):G2 b v w (w1.drewN n):=⟨h.os,h.tape,h.output,h.size,h.block⟩
theorem G2.set{b v:Nat}{w w1:World}(h:G2 b v w w1)(o:Nat)(x:Value):G2 b v w (w1.setCell ⟨v,o,none⟩ x) :=
 ⟨h.os,h.tape,h.output,by simpa [World.setCell] using h.size,fun k hk h1 h2=>by rw[<-h.block k hk h1 h2];exact heap_setCell_other w1 _ k x (fun e=>h2 e)⟩
def VB(v:Nat)(x1 x2 x3:Int)(w:World):Prop:=w.heap[v]?=some (.cells #[.int .i64 x1,.int .i64 x2,.int .i64 x3,.string ⟨#[]⟩,.string ⟨#[]⟩] 147 (0,0))
theorem VB.cell{v:Nat}{x1 x2 x3:Int}{w:World}(h:VB v x1 x2 x3 w):w.cell? ⟨v,0,none⟩=some (.int .i64 x1)/\w.cell? ⟨v,1,none⟩=some (.int .i64 x2)/\w.cell? ⟨v,2,none⟩=some (.int .i64 x3) :=
 ⟨by rw[af h];rfl,by rw[af h];rfl,by rw[af h];rfl⟩
theorem VB.f{v:Nat}{x1 x2 x3:Int}{w:World}(h:VB v x1 x2 x3 w)(o:Nat):w.frozen? ⟨v,o,none⟩=false:=Lib.frozen_of_heap h o
theorem VB.grow{b v:Nat}{x1 x2 x3:Int}{w w':World}(h:VB v x1 x2 x3 w)(hg:w.grownBy w' (some b))(hn:v≠b):VB v x1 x2 x3 w':=by
 unfold VB at h ⊢;rw[hg.block v ((jU h)) (by simpa using hn)];exact h
theorem VB.drew{v:Nat}{x1 x2 x3:Int}{w:World}(h:VB v x1 x2 x3 w)(n:Nat):VB v x1 x2 x3 (w.drewN n):=h
theorem VB.set0{v:Nat}{x1 x2 x3:Int}{w:World}(h:VB v x1 x2 x3 w)(y:Int):VB v y x2 x3 (w.setCell ⟨v,0,none⟩ (.int .i64 y)):=by
 unfold VB at h ⊢;simp[World.setCell,Array.getElem?_modify,h]
theorem VB.set1{v:Nat}{x1 x2 x3:Int}{w:World}(h:VB v x1 x2 x3 w)(y:Int):VB v x1 y x3 (w.setCell ⟨v,1,none⟩ (.int .i64 y)):=by
 unfold VB at h ⊢;simp[World.setCell,Array.getElem?_modify,h]
theorem VB.set2{v:Nat}{x1 x2 x3:Int}{w:World}(h:VB v x1 x2 x3 w)(y:Int):VB v x1 x2 y (w.setCell ⟨v,2,none⟩ (.int .i64 y)):=by
 unfold VB at h ⊢;simp[World.setCell,Array.getElem?_modify,h]
theorem RS.other{b v:Nat}{s:ByteArray}{i:Nat}{w:World}(h:RS b s i w)(hn:b≠v)(o:Nat)(x:Value):RS b s i (w.setCell ⟨v,o,none⟩ x):=by
 obtain⟨t,h⟩:=h;exact⟨t,by rw[<-h];exact heap_setCell_other w _ b x hn⟩
def xG(l:List UInt8)(j:Nat)(x1 x2 x3:Int):Int × Nat × Int × Int × Int:=(0,j,x1,x2,x3)
def qC(l:List UInt8)(j:Nat)(x1 x2:Int):Int × Nat × Int × Int × Int :=
 if l[j]?=some 46 then(if(rdNum l (j+1)).1=0 then xG l (rdNum l (j+1)).2.2 x1 x2 (rdNum l (j+1)).2.1 else((rdNum l (j+1)).1,(rdNum l (j+1)).2.2,0,0,0)) else(2,j,0,0,0)
def o8(l:List UInt8)(j:Nat)(x1:Int):Int × Nat × Int × Int × Int :=
 if l[j]?=some 46 then(if(rdNum l (j+1)).1=0 then qC l (rdNum l (j+1)).2.2 x1 (rdNum l (j+1)).2.1 else((rdNum l (j+1)).1,(rdNum l (j+1)).2.2,0,0,0)) else(2,j,0,0,0)
theorem P8(l:List UInt8):bQ l=if(rdNum l 0).1=0 then o8 l (rdNum l 0).2.2 (rdNum l 0).2.1 else((rdNum l 0).1,(rdNum l 0).2.2,0,0,0):=rfl
theorem XN(l:List UInt8)(i:Nat)(hi:i<=l.length):(rdNum l i).2.2<=l.length:=by
 have:=rH aI l i hi;unfold rdNum
 repeat' split
 all_goals first|exact hi|(simp only;omega)
theorem XO(v:Nat)(w:World):(Instr.index 275 (.agg #[.pointer (some ⟨v,0,none⟩),.pointer (some ⟨v,1,none⟩),.pointer (some ⟨v,2,none⟩)]) (.int .i64 0)).run prog w=.ok (.pointer (some ⟨v,0,none⟩)) w:=by kernel_rfl
theorem XP(v:Nat)(w:World):(Instr.index 275 (.agg #[.pointer (some ⟨v,0,none⟩),.pointer (some ⟨v,1,none⟩),.pointer (some ⟨v,2,none⟩)]) (.int .i64 1)).run prog w=.ok (.pointer (some ⟨v,1,none⟩)) w:=by kernel_rfl
theorem XQ(v:Nat)(w:World):(Instr.index 275 (.agg #[.pointer (some ⟨v,0,none⟩),.pointer (some ⟨v,1,none⟩),.pointer (some ⟨v,2,none⟩)]) (.int .i64 2)).run prog w=.ok (.pointer (some ⟨v,2,none⟩)) w:=by kernel_rfl
theorem XR(b v:Nat)(s:ByteArray)(w:World)(h:RS b s 0 w)(hv:VB v 0 0 0 w)(hbv:b≠v)(hs:s.size<2 ^ 62) :
  Calls prog 167 #[.pointer (some ⟨b,0,none⟩),.pointer (some ⟨v,0,none⟩)] w fun e w'=>e=.returned (.int .i64 (bQ s.data.toList).1)/\RS b s (bQ s.data.toList).2.1 w'/\(∃y1 y2 y3,VB v y1 y2 y3 w'/\((bQ s.data.toList).1=0->(y1,y2,y3)=(bQ s.data.toList).2.2))/\G2 b v w w':=by
 obtain⟨l,hl⟩:∃l,l=s.data.toList:=⟨_,rfl⟩;have hll:l.length=s.size:=by rw[hl];simp
 have jD:Hd (l.length=s.size):=hll;obtain⟨R,hR⟩:=zN (bQ l);rw[<-hl,hR];have Jg:=P8 l;rw[hR]at Jg;have HR:Hd (R=if(rdNum l 0).1=0 then o8 l (rdNum l 0).2.2 (rdNum l 0).2.1 else((rdNum l 0).1,(rdNum l 0).2.2,0,0,0)):=Jg;have CN:Hd (∀i w,i<=s.size->RS b s i w->Calls prog 206 #[.pointer (some ⟨b,0,none⟩)] w fun e w'=>e=.returned (.tuple #[.int .i64 (rdNum l i).2.1,.int .i64 (rdNum l i).1])/\RS b s (rdNum l i).2.2 w'/\w.grownBy w' (some b)):=fun i w hi h=>by rw[hl];exact XL b s i w hi h hs
 have TY:Hd (∀i w,l[i]?=some 46->RS b s i w->Calls prog 205 #[.pointer (some ⟨b,0,none⟩),.string ⟨#[46]⟩] w fun e w'=>e=.returned (.bool true)/\RS b s (i+1) w'/\w.grownBy w' (some b)):=fun i w hc h=>Ar b s i 46 w (by rw[<-hl];exact hc) h hs
 have TN:Hd (∀i w,i<=s.size->¬l[i]?=some 46->RS b s i w->Calls prog 205 #[.pointer (some ⟨b,0,none⟩),.string ⟨#[46]⟩] w fun e w'=>e=.returned (.bool false)/\RS b s i w'/\w.grownBy w' (some b)):=fun i w hi hc h=>Au b s i 46 w hi (by rw[<-hl];exact hc) h hs
 have HI:Hd (RS b s 0 w/\VB v 0 0 0 w):=⟨h,hv⟩;have bW:Hd (b≠v):=hbv;have Jh:Hd (∀i,i<=s.size->(rdNum l i).2.2<=s.size):=fun i hi=>by have:=XN l i (by rw[hll];exact hi);rw[hll]at this;exact this
 clear hl hll hR Jg h hv hbv hs;go_enter func167,ntmps167;go_wp2;go_quiet (fail);go_wp2;go_loopw [18] (fun vi wr=>∃(k j:Nat) (x1 x2 x3:Int),vi=.int .i64 k/\j<=s.size/\RS b s j wr/\VB v x1 x2 x3 wr/\G2 b v w wr/\((k=0/\j=0/\x2=0/\x3=0)\/(k=1/\R=o8 l j x1/\x3=0)\/(k=2/\R=qC l j x1 x2)\/(k=3/\R=xG l j x1 x2 x3))) (fun vi _=>3-(intOf vi).toNat)
 case atStart=>exact⟨0,0,0,0,0,rfl,Nat.zero_le _,HI.o.1.drew _,HI.o.2.drew _,(G2.refl b v w).drew _,Or.inl ⟨rfl,rfl,rfl,rfl⟩⟩
 case round =>
  obtain⟨k,j,x1,x2,x3,rfl,hj,hrs,hvb,hg2,hcase⟩:=hrel;have HJ:Hd (j<=s.size):=hj;have dm:Hd (RS b s j wr):=hrs;have yS:Hd (VB v x1 x2 x3 wr):=hvb;have HG:Hd (G2 b v w wr):=hg2;clear hj hrs hvb hg2
  rcases hcase with⟨rfl,rfl,hx2,hx3⟩|⟨rfl,hrk,hx3⟩|⟨rfl,hrk⟩|⟨rfl,hrk⟩
  ·have ix:=XO v wr;have P9:Hd (x3=0):=hx3;have HRk:Hd (R=if(rdNum l 0).1=0 then o8 l (rdNum l 0).2.2 (rdNum l 0).2.1 else((rdNum l 0).1,(rdNum l 0).2.2,0,0,0)):=HR.o;have o9:Hd (0<=s.size):=HJ.o;have Aw:Hd (RS b s 0 wr):=dm.o;have Az:Hd (VB v x1 x2 x3 wr):=yS.o;have AA:Hd (G2 b v w wr):=HG.o;clear hx2 hx3 HR;have uZ:Hd (Calls prog 206 #[.pointer (some ⟨b,0,none⟩)] wr fun e w'=>e=.returned (.tuple #[.int .i64 (rdNum l (0)).2.1,.int .i64 (rdNum l (0)).1])/\RS b s (rdNum l (0)).2.2 w'/\wr.grownBy w' (some b)):=CN.o (0) wr o9.o Aw.o;have vg:Hd ((rdNum l (0)).2.2<=s.size):=Jh.o (0) o9.o;obtain⟨E,hE⟩:=zN ((rdNum l (0)).1);obtain⟨V,hV⟩:=zN ((rdNum l (0)).2.1);obtain⟨Q,hQ⟩:=zN ((rdNum l (0)).2.2);rw[hE,hV,hQ]at uZ;rw[hQ]at vg;rw[hE,hV,hQ]at HRk;clear hE hV hQ;go_wp2_with (go_at_call 206;refine uZ.o.mono ?_)
   rintro e wq ⟨rfl,hrq,hgq⟩;have nK:Hd (VB v x1 x2 x3 wq):=Az.o.grow hgq (Ne.symm bW.o);have vC:Hd (G2 b v w wq):=AA.o.step hgq;have vF:Hd (RS b s Q wq):=hrq;clear hrq hgq;have cc:=nK.o.cell.1;have ff:=nK.o.f 0
   cases hz:(E == 0) with
   | false =>
    have HZ:Hd (R=(E,Q,0,0,0)):=by show R=_;rw[HRk.o,if_neg (by simpa using hz)]
    go_wp2;go_ret;refine⟨dD (by rw[HZ.o]),by rw[HZ.o];exact vF.o.other bW.o _ _,⟨_,_,_,nK.o.set0 _,fun hh=>?_⟩,vC.o.set _ _⟩;rw[HZ.o]at hh;exact absurd hh (by simpa using hz)
   | true =>
    have HZ:Hd (R=o8 l Q V):=by show R=_;rw[HRk.o,if_pos (by simpa using hz)]
    go_wp2;go_roundw
    case rel=>exact⟨1,Q,V,x2,x3,rfl,vg.o,vF.o.other bW.o _ _,nK.o.set0 _,vC.o.set _ _,Or.inr (Or.inl ⟨rfl,HZ.o,P9.o⟩)⟩
    case measure=>simp[intOf]
  ·have ix:=XP v wr;have P9:Hd (x3=0):=hx3;have AB:Hd (R=o8 l j x1):=hrk;clear hrk hx3
   cases hc:decide (l[j]?=some 46) with
   | false =>
    have hc':=of_decide_eq_false hc;have HZ:Hd (R=(2,j,0,0,0)):=by show R=_;rw[AB.o];unfold o8;rw[if_neg hc']
    have CT:Hd (Calls prog 205 #[.pointer (some ⟨b,0,none⟩),.string ⟨#[46]⟩] wr fun e w'=>e=.returned (.bool false)/\RS b s j w'/\wr.grownBy w' (some b)):=TN.o j wr HJ.o hc' dm.o;clear hc hc';go_wp2_with (go_at_call 205;refine CT.o.mono ?_);rintro e wt ⟨rfl,hrt,hgt⟩;have HF:Hd (RS b s j wt/\G2 b v w wt):=⟨hrt,HG.o.step hgt⟩;have Ji:Hd (VB v x1 x2 x3 wt):=yS.o.grow hgt (Ne.symm bW.o);clear hrt hgt;go_wp2;go_ret;refine⟨dD (by rw[HZ.o]),by rw[HZ.o];exact HF.o.1,⟨_,_,_,Ji.o,fun hh=>?_⟩,HF.o.2⟩;rw[HZ.o]at hh;exact absurd hh (by show ¬(2:Int)=0;decide)
   | true =>
    have hc':=of_decide_eq_true hc;have HRk:Hd (R=if(rdNum l (j+1)).1=0 then qC l (rdNum l (j+1)).2.2 x1 (rdNum l (j+1)).2.1 else((rdNum l (j+1)).1,(rdNum l (j+1)).2.2,0,0,0)):=by show R=_;rw[AB.o];unfold o8;rw[if_pos hc']
    have CT:Hd (Calls prog 205 #[.pointer (some ⟨b,0,none⟩),.string ⟨#[46]⟩] wr fun e w'=>e=.returned (.bool true)/\RS b s (j+1) w'/\wr.grownBy w' (some b)):=TY.o j wr hc' dm.o;have o9:Hd (j+1<=s.size):=by have:=(List.getElem?_eq_some_iff.1 hc').1;rw[jD.o]at this;exact this
    clear hc hc';go_wp2_with (go_at_call 205;refine CT.o.mono ?_);rintro e wt ⟨rfl,hrt,hgt⟩;have Aw:Hd (RS b s (j+1) wt):=hrt;have Az:Hd (VB v x1 x2 x3 wt):=yS.o.grow hgt (Ne.symm bW.o);have AA:Hd (G2 b v w wt):=HG.o.step hgt;clear hrt hgt;have uZ:Hd (Calls prog 206 #[.pointer (some ⟨b,0,none⟩)] wt fun e w'=>e=.returned (.tuple #[.int .i64 (rdNum l (j+1)).2.1,.int .i64 (rdNum l (j+1)).1])/\RS b s (rdNum l (j+1)).2.2 w'/\wt.grownBy w' (some b)):=CN.o (j+1) wt o9.o Aw.o;have vg:Hd ((rdNum l (j+1)).2.2<=s.size):=Jh.o (j+1) o9.o;obtain⟨E,hE⟩:=zN ((rdNum l (j+1)).1);obtain⟨V,hV⟩:=zN ((rdNum l (j+1)).2.1);obtain⟨Q,hQ⟩:=zN ((rdNum l (j+1)).2.2);rw[hE,hV,hQ]at uZ;rw[hQ]at vg;rw[hE,hV,hQ]at HRk;clear hE hV hQ;go_wp2_with (go_at_call 206;refine uZ.o.mono ?_);rintro e wq ⟨rfl,hrq,hgq⟩;have nK:Hd (VB v x1 x2 x3 wq):=Az.o.grow hgq (Ne.symm bW.o)
    have vC:Hd (G2 b v w wq):=AA.o.step hgq;have vF:Hd (RS b s Q wq):=hrq;clear hrq hgq;have cc:=nK.o.cell.2.1;have ff:=nK.o.f 1
    cases hz:(E == 0) with
    | false =>
     have HZ:Hd (R=(E,Q,0,0,0)):=by show R=_;rw[HRk.o,if_neg (by simpa using hz)]
     go_wp2;go_ret;refine⟨dD (by rw[HZ.o]),by rw[HZ.o];exact vF.o.other bW.o _ _,⟨_,_,_,nK.o.set1 _,fun hh=>?_⟩,vC.o.set _ _⟩;rw[HZ.o]at hh;exact absurd hh (by simpa using hz)
    | true =>
     have HZ:Hd (R=qC l Q x1 V):=by show R=_;rw[HRk.o,if_pos (by simpa using hz)]
     go_wp2;go_roundw
     case rel=>exact⟨2,Q,x1,V,x3,rfl,vg.o,vF.o.other bW.o _ _,nK.o.set1 _,vC.o.set _ _,Or.inr (Or.inr (Or.inl ⟨rfl,HZ.o⟩))⟩
     case measure=>simp[intOf]
  ·have ix:=XQ v wr;have AB:Hd (R=qC l j x1 x2):=hrk;clear hrk
   cases hc:decide (l[j]?=some 46) with
   | false =>
    have hc':=of_decide_eq_false hc;have HZ:Hd (R=(2,j,0,0,0)):=by show R=_;rw[AB.o];unfold qC;rw[if_neg hc']
    have CT:Hd (Calls prog 205 #[.pointer (some ⟨b,0,none⟩),.string ⟨#[46]⟩] wr fun e w'=>e=.returned (.bool false)/\RS b s j w'/\wr.grownBy w' (some b)):=TN.o j wr HJ.o hc' dm.o;clear hc hc';go_wp2_with (go_at_call 205;refine CT.o.mono ?_);rintro e wt ⟨rfl,hrt,hgt⟩;have HF:Hd (RS b s j wt/\G2 b v w wt):=⟨hrt,HG.o.step hgt⟩;have Ji:Hd (VB v x1 x2 x3 wt):=yS.o.grow hgt (Ne.symm bW.o);clear hrt hgt;go_wp2;go_ret;refine⟨dD (by rw[HZ.o]),by rw[HZ.o];exact HF.o.1,⟨_,_,_,Ji.o,fun hh=>?_⟩,HF.o.2⟩;rw[HZ.o]at hh;exact absurd hh (by show ¬(2:Int)=0;decide)
   | true =>
    have hc':=of_decide_eq_true hc;have HRk:Hd (R=if(rdNum l (j+1)).1=0 then xG l (rdNum l (j+1)).2.2 x1 x2 (rdNum l (j+1)).2.1 else((rdNum l (j+1)).1,(rdNum l (j+1)).2.2,0,0,0)):=by show R=_;rw[AB.o];unfold qC;rw[if_pos hc']
    have CT:Hd (Calls prog 205 #[.pointer (some ⟨b,0,none⟩),.string ⟨#[46]⟩] wr fun e w'=>e=.returned (.bool true)/\RS b s (j+1) w'/\wr.grownBy w' (some b)):=TY.o j wr hc' dm.o;have o9:Hd (j+1<=s.size):=by have:=(List.getElem?_eq_some_iff.1 hc').1;rw[jD.o]at this;exact this
    clear hc hc';go_wp2_with (go_at_call 205;refine CT.o.mono ?_);rintro e wt ⟨rfl,hrt,hgt⟩;have Aw:Hd (RS b s (j+1) wt):=hrt;have Az:Hd (VB v x1 x2 x3 wt):=yS.o.grow hgt (Ne.symm bW.o);have AA:Hd (G2 b v w wt):=HG.o.step hgt;clear hrt hgt;have uZ:Hd (Calls prog 206 #[.pointer (some ⟨b,0,none⟩)] wt fun e w'=>e=.returned (.tuple #[.int .i64 (rdNum l (j+1)).2.1,.int .i64 (rdNum l (j+1)).1])/\RS b s (rdNum l (j+1)).2.2 w'/\wt.grownBy w' (some b)):=CN.o (j+1) wt o9.o Aw.o;have vg:Hd ((rdNum l (j+1)).2.2<=s.size):=Jh.o (j+1) o9.o;obtain⟨E,hE⟩:=zN ((rdNum l (j+1)).1);obtain⟨V,hV⟩:=zN ((rdNum l (j+1)).2.1);obtain⟨Q,hQ⟩:=zN ((rdNum l (j+1)).2.2);rw[hE,hV,hQ]at uZ;rw[hQ]at vg;rw[hE,hV,hQ]at HRk;clear hE hV hQ;go_wp2_with (go_at_call 206;refine uZ.o.mono ?_);rintro e wq ⟨rfl,hrq,hgq⟩;have nK:Hd (VB v x1 x2 x3 wq):=Az.o.grow hgq (Ne.symm bW.o)
    have vC:Hd (G2 b v w wq):=AA.o.step hgq;have vF:Hd (RS b s Q wq):=hrq;clear hrq hgq;have cc:=nK.o.cell.2.2;have ff:=nK.o.f 2
    cases hz:(E == 0) with
    | false =>
     have HZ:Hd (R=(E,Q,0,0,0)):=by show R=_;rw[HRk.o,if_neg (by simpa using hz)]
     go_wp2;go_ret;refine⟨dD (by rw[HZ.o]),by rw[HZ.o];exact vF.o.other bW.o _ _,⟨_,_,_,nK.o.set2 _,fun hh=>?_⟩,vC.o.set _ _⟩;rw[HZ.o]at hh;exact absurd hh (by simpa using hz)
    | true =>
     have HZ:Hd (R=xG l Q x1 x2 V):=by show R=_;rw[HRk.o,if_pos (by simpa using hz)]
     go_wp2;go_roundw
     case rel=>exact⟨3,Q,x1,x2,V,rfl,vg.o,vF.o.other bW.o _ _,nK.o.set2 _,vC.o.set _ _,Or.inr (Or.inr (Or.inr ⟨rfl,HZ.o⟩))⟩
     case measure=>simp[intOf]
  ·have HZ:Hd (R=(0,j,x1,x2,x3)):=hrk;clear hrk;go_wp2;go_ret;refine⟨dD (by rw[HZ.o]),by rw[HZ.o];exact dm.o,⟨_,_,_,yS.o,fun _=>by rw[HZ.o]⟩,HG.o⟩
end Go.Proofs.YtnnbgjaphfhibaaGreatDoor
namespace Go.Proofs
open Go.Shelf
def Tryz.lays316_ren:Go.Shelf.Ren:=⟨fun|316=>217|n=>n,fun|22=>244|24=>150|25=>151|27=>87|28=>43|30=>76|32=>153|33=>113|37=>90|40=>300|41=>110|42=>274|46=>157|47=>156|48=>185|49=>338|51=>199|52=>198|53=>201|54=>200|55=>297|67=>120|69=>98|70=>89|71=>91|72=>92|73=>162|74=>93|75=>94|76=>95|77=>96|79=>288|80=>100|81=>164|83=>97|84=>160|85=>306|86=>307|100=>161|101=>49|103=>152|104=>34|105=>289|106=>290|108=>315|111=>165|114=>251|119=>301|126=>298|127=>121|128=>299|131=>80|135=>207|137=>302|138=>303|139=>304|143=>317|144=>318|145=>319|164=>158|165=>159|166=>260|167=>305|168=>308|169=>309|170=>310|171=>202|172=>203|173=>204|174=>205|175=>311|176=>312|182=>192|183=>193|188=>255|189=>256|190=>257|191=>258|192=>259|209=>313|210=>314|211=>252|212=>253|213=>254|214=>316|218=>245|219=>246|220=>247|222=>249|224=>284|225=>285|228=>281|229=>282|231=>295|232=>293|233=>294|238=>320|239=>321|240=>322|241=>323|242=>324|243=>326|244=>174|245=>327|246=>328|247=>329|248=>330|249=>331|n=>n,fun|1=>7|3=>10|4=>11|15=>12|16=>13|17=>5|18=>8|19=>9|n=>n⟩
theorem Tryz.lays316:Go.Proofs.LaysM.n316 prog Tryz.lays316_ren:={
 mixed:=by kernel_rfl
 f316:=func217.trans (congrArg some (by kernel_rfl))
 t0:=underlying0
 a0:=isAgg0
 z0:=sizeOf0
 v0:=zeroValue0
 t3:=underlying3
 a3:=isAgg3
 z3:=sizeOf3
 v3:=zeroValue3
 t4:=underlying4
 a4:=isAgg4
 z4:=sizeOf4
 v4:=zeroValue4
 t9:=underlying9
 a9:=isAgg9
 z9:=sizeOf9
 v9:=zeroValue9
 t37:=underlying90
 a37:=isAgg90
 z37:=sizeOf90
 v37:=zeroValue90
 t127:=underlying121
 a127:=isAgg121
 z127:=sizeOf121
 v127:=zeroValue121
 t5:=underlying5
 a5:=isAgg5
 z5:=sizeOf5
 v5:=zeroValue5
 i0:=by kernel_rfl
 i3:=by kernel_rfl
 i4:=by kernel_rfl
 i5:=by kernel_rfl
 i9:=by kernel_rfl
 i37:=by kernel_rfl
 i127:=by kernel_rfl }
end Go.Proofs
