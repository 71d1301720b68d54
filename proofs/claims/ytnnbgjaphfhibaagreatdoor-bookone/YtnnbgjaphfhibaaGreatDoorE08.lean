import Derived.Test.YtnnbgjaphfhibaaGreatDoorE01
import Derived.Below
import Derived.Lib.ConvBytes
import Derived.Test.YtnnbgjaphfhibaaGreatDoorE05
set_option linter.all false
set_option maxRecDepth 100000
set_option maxHeartbeats 0
open Go.Proofs.Tryz
namespace Go.Proofs.YtnnbgjaphfhibaaGreatDoor
open Go.RowKit
theorem Gj{w w':World}(h:w.grownBy w' none):Below w.heap.size w w':=⟨h.os,h.tape,h.output,h.size,fun k hk=>h.block k hk (by simp)⟩
theorem GV{w w':World}{r:Option Nat}(h:w.drew.grownBy w' r):w.grownBy w' r:=⟨h.os,h.tape,h.output,h.size,h.block⟩
theorem bC{w w':World}(h:w.grownBy w' none)(o:Obj):w.grownBy (w'.alloc o) none :=
 ⟨h.os,h.tape,h.output,by have:=h.size;simp;omega,fun k hk hn=>by rw[Lib.alloc_old _ _ _ (Nat.lt_of_lt_of_le hk h.size)];exact h.block k hk hn⟩
theorem Lr(w:World)(e:TypeId)(s:ByteArray):w.grownBy (Lib.bytesWorld w e s) none :=
 ⟨rfl,rfl,rfl,by rw[Lib.bytesWorld_size];omega,fun k hk _=>Lib.bytesWorld_at_old w e s k hk⟩
theorem GX{w w':World}(h:w.grownBy w' none)(r:Option Nat):w.grownBy w' r:=⟨h.os,h.tape,h.output,h.size,fun k hk _=>h.block k hk (by simp)⟩
theorem Tf(s:ByteArray)(w:World)(hs:s.size<2 ^ 62) :
  Calls prog 236 #[.string s] w fun e w'=>e=.returned (.bool (pW s.data.toList))/\w.grownBy w' none:=by
 have kc:=fun(w:World)=>Lib.run_convert_string_bytes (P:=prog) w 9 90 5 s underlying9 underlying90 underlying5
 obtain⟨W,hW⟩:=zN (Lib.bytesWorld w 5 s);have HC:Hd (∀j,(hj:j<s.size)->W.cell? ⟨w.heap.size,j,none⟩=some (.int .u8 (s[j].toNat:Int))):=by
  show ∀j,(hj:j<s.size)->W.cell? ⟨w.heap.size,j,none⟩=some (.int .u8 (s[j].toNat:Int));intro j hj;rw[<-hW,Lib.bytesWorld_cell w _ s j hj];have:s.data.toList.getD j 0=s[j]:=by
   rw[List.getD_eq_getElem?_getD,lL s j hj];rfl
  rw[this]
 have HG:Hd (w.grownBy W none):=by show w.grownBy W none;rw[<-hW];exact Lr w _ s
 have kw:=kc w;rw[hW]at kw;clear kc hW;go_enter func236,ntmps236;go_wp2
 go_loop [8] (fun i=>∃k:Nat,k<=s.size/\i=.int .i64 k/\∀j,(hj:j<s.size)->j<k->aN s[j]=true) (fun i=>s.size-(intOf i).toNat)
 case atStart=>exact⟨0,Nat.zero_le _,rfl,fun j hj h=>absurd h (by omega)⟩
 case round =>
  obtain⟨k,hk,rfl,hp⟩:=hrel;have HP:=ae hp;clear hp
  by_cases hlt:k<s.size
  ·have ck:=HC.o k hlt
   cases hd:aN s[k] with
   | true =>
    go_wp2_with (go_at_call 224;refine(yF _ _).mono ?_;rintro e w' ⟨rfl,rfl⟩)
    go_round
    case rel =>
     refine⟨k+1,by omega,by go_num,fun j hj hjk=>?_⟩
     by_cases hjk':j<k
     ·exact HP.o j hj hjk'
     ·have e:j=k:=by omega
      subst e;exact hd
    case measure=>simp[intOf];omega
   | false =>
    have HN:Hd (pW s.data.toList=false):=by
     show pW s.data.toList=false;unfold pW;have:s.data.toList.all aN=false:=by
      rw[List.all_eq_false];exact⟨s[k],List.mem_of_getElem? (lL s k hlt),by simp[hd]⟩
     rw[this,Bool.and_false]
    go_wp2_with (go_at_call 224;refine(yF _ _).mono ?_;rintro e w' ⟨rfl,rfl⟩);go_ret;exact⟨bJ HN.o.symm,HG.o⟩
  ·have hks:k=s.size:=by omega
   have HA:Hd (s.data.toList.all aN=true):=by
    show s.data.toList.all aN=true;rw[List.all_eq_true];intro c hc;obtain⟨j,hj,rfl⟩:=List.getElem_of_mem hc;exact HP.o j (by simpa using hj) (by simp at hj;have:s.size=s.data.size:=rfl;omega)
   clear hks hk;go_wp2;go_ret;refine⟨bJ ?_,HG.o⟩;unfold pW;rw[Lib.toList_data,HA.o,Bool.and_true]
theorem aaV(s:ByteArray)(k:Nat)(hk:k<=s.size)(w:World) :
  (Instr.slice 9 (.string s) (some (.int .i64 (k:Int))) none none).run prog w=.ok (.string ⟨(s.data.toList.drop k).toArray⟩) w:=by
 have h1:(0:Int)<=(k:Int):=by omega
 have h5:(k:Int)<=(s.size:Int):=by omega
 have e:s.extract k s.size=⟨(s.data.toList.drop k).toArray⟩:=by
  apply ByteArray.ext;rw[ByteArray.data_extract];apply Array.ext';simp;exact List.take_of_length_le (by simp)
 rw[<-e];simp[go_sem,underlying9,h1,h5]
open Go.RowKit
theorem Ti(c:UInt8)(w:World):Calls prog 235 #[.int .u8 (c.toNat:Int)] w fun e w'=>e=.returned (.bool (aX c))/\w'=w:=by
 go_enter func235,ntmps235;go_wp2_with (go_at_call 224;refine(yF _ _).mono ?_;rintro e w' ⟨rfl,rfl⟩)
 all_goals go_ret
 all_goals (refine⟨bJ ?_,rfl⟩;rw[Bool.eq_iff_iff];unfold aX;simp_all;try omega)
def RS(b:Nat)(s:ByteArray)(i:Nat)(w:World):Prop:=∃t,w.heap[b]?=some (.cells #[.string s,.int .i64 (i:Int)] t (0,0))
theorem RS.c0{b:Nat}{s:ByteArray}{i:Nat}{w:World}(h:RS b s i w):w.cell? ⟨b,0,none⟩=some (.string s):=by obtain⟨t,h⟩:=h;rw[ag h];rfl
theorem RS.c1{b:Nat}{s:ByteArray}{i:Nat}{w:World}(h:RS b s i w):w.cell? ⟨b,1,none⟩=some (.int .i64 (i:Int)):=by obtain⟨t,h⟩:=h;rw[ag h];rfl
theorem RS.f1{b:Nat}{s:ByteArray}{i:Nat}{w:World}(h:RS b s i w):w.frozen? ⟨b,1,none⟩=false:=by obtain⟨t,h⟩:=h;exact Lib.frozen_of_heap h 1
theorem RS.drew{b:Nat}{s:ByteArray}{i:Nat}{w:World}(h:RS b s i w)(n:Nat):RS b s i (w.drewN n):=h
theorem RS.set{b:Nat}{s:ByteArray}{i:Nat}{w:World}(h:RS b s i w)(j:Nat):RS b s j (w.setCell ⟨b,1,none⟩ (.int .i64 (j:Int))):=by
 obtain⟨t,h⟩:=h;exact⟨t,by simp[World.setCell,Array.getElem?_modify,h]⟩
theorem aaW(s p:ByteArray)(w:World) :
  Calls prog 234 #[.string s,.string p] w fun e w'=>e=.returned (.bool (Lib.hasPrefix s.data.toList p.data.toList))/\w'=w:=Any.strings_HasPrefix Tryz.lays99 s p w
theorem next_any(b:Nat)(s t:ByteArray)(i:Nat)(w:World)(hi:i<=s.size)(h:RS b s i w) :
  Calls prog 222 #[.pointer (some ⟨b,0,none⟩),.string t] w fun e w'=>e=.returned (.bool (Lib.hasPrefix (s.data.toList.drop i) t.data.toList))/\∃n,w'=w.drewN n:=by
 have h0:=h.c0;have h1:=h.c1;obtain⟨X,hX⟩:∃X:ByteArray,X=⟨(s.data.toList.drop i).toArray⟩:=⟨_,rfl⟩;have sl:∀wx,(Instr.slice 9 (.string s) (some (.int .i64 (i:Int))) none none).run prog wx=.ok (.string X) wx:=fun wx=>by rw[hX];exact aaV s i hi wx
 obtain⟨p,hp⟩:=zN (Lib.hasPrefix (s.data.toList.drop i) t.data.toList);have CP:Hd (∀w,Calls prog 234 #[.string X,.string t] w fun e w'=>e=.returned (.bool p)/\w'=w):=fun w=>by
  rw[<-hp];have:=aaW X t w;rw[hX]at this ⊢;exact this
 rw[hp];clear h hX hp hi;go_enter func222,ntmps222;go_wp2;go_quiet (first|(go_at_call 234;exact Calls.quiet_of_same (CP.o _)));go_wp2;go_ret;exact⟨rfl,_,rfl⟩
theorem take_any(b:Nat)(s t:ByteArray)(i:Nat)(w:World)(hi:i<=s.size)(h:RS b s i w)(hs:s.size<2 ^ 62)(ht:t.size<2 ^ 62) :
  Calls prog 205 #[.pointer (some ⟨b,0,none⟩),.string t] w fun e w'=>e=.returned (.bool (Lib.hasPrefix (s.data.toList.drop i) t.data.toList))/\RS b s (if Lib.hasPrefix (s.data.toList.drop i) t.data.toList then i+t.size else i) w'/\w.grownBy w' (some b):=by
 obtain⟨p,hp⟩:=zN (Lib.hasPrefix (s.data.toList.drop i) t.data.toList);have CN:Hd (Calls prog 222 #[.pointer (some ⟨b,0,none⟩),.string t] w fun e w'=>e=.returned (.bool p)/\∃n,w'=w.drewN n):=by
  show Calls _ _ _ _ _;rw[<-hp];exact next_any b s t i w hi h
 rw[hp];have HR:=ae h;have hw:IntKind.i64.wrap ((i:Int)+(t.size:Int))=((i+t.size:Nat):Int):=by rw[IntKind.wrap_i64];omega
 clear hp h hs ht hi
 cases p with
 | true =>
  go_enter func205,ntmps205;go_wp2_with (go_at_call 222;refine CN.o.mono ?_);rintro e w1 ⟨rfl,n,hn⟩;have HR1:Hd (RS b s i w1):=by show RS b s i w1;rw[hn];exact HR.o.drew n
  have ax:Hd (w.grownBy w1 (some b)):=by show w.grownBy w1 (some b);rw[hn];exact ay (au w _) n
  have d1:=HR1.o.c1;have df:=HR1.o.f1;clear hn;go_wp2;go_ret;exact⟨rfl,HR1.o.set (i+t.size),aS ax.o _ _⟩
 | false =>
  go_enter func205,ntmps205;go_wp2_with (go_at_call 222;refine CN.o.mono ?_);rintro e w1 ⟨rfl,n,hn⟩;have HR1:Hd (RS b s i w1):=by show RS b s i w1;rw[hn];exact HR.o.drew n
  have ax:Hd (w.grownBy w1 (some b)):=by show w.grownBy w1 (some b);rw[hn];exact ay (au w _) n
  clear hn;go_wp2;go_ret;exact⟨rfl,HR1.o,ax.o⟩
theorem aaX(b:Nat)(s:ByteArray)(i:Nat)(w:World)(h:RS b s i w) :
  Calls prog 169 #[.pointer (some ⟨b,0,none⟩)] w fun e w'=>e=.returned (.bool (decide (i=s.size)))/\∃n,w'=w.drewN n:=by
 have h0:=h.c0;have h1:=h.c1;clear h
 by_cases hc:i=s.size
 ·have hd:((i:Int) == (s.size:Int))=true:=by simp;omega
  have HD:=ae (decide_eq_true hc);rw[HD.o];clear hc;go_enter func169,ntmps169;go_wp2;go_quiet (fail);go_wp2;go_ret;exact⟨rfl,_,rfl⟩
 ·have hd:((i:Int) == (s.size:Int))=false:=by simp;omega
  have HD:=ae (decide_eq_false hc);rw[HD.o];clear hc;go_enter func169,ntmps169;go_wp2;go_quiet (fail);go_wp2;go_ret;exact⟨rfl,_,rfl⟩
theorem Tj(l:List UInt8)(i:Nat)(c:UInt8):Lib.hasPrefix (l.drop i) [c]=decide (l[i]?=some c):=by
 have e:l[i]?=(l.drop i)[0]?:=by rw[List.getElem?_drop];rfl
 rw[e]
 cases l.drop i with
 | nil=>rfl
 | cons x r =>
  show(c == x && true)=decide (some x=some c);rw[Bool.and_true]
  by_cases h:x=c
  ·subst h;rw[decide_eq_true rfl];exact beq_self_eq_true x
  ·rw[decide_eq_false (fun e=>h (Option.some.inj e))];exact beq_eq_false_iff_ne.2 (fun e=>h e.symm)
theorem CO(b:Nat)(s:ByteArray)(i:Nat)(c:UInt8)(w:World)(hc:s.data.toList[i]?=some c)(h:RS b s i w)(hs:s.size<2 ^ 62) :
  Calls prog 205 #[.pointer (some ⟨b,0,none⟩),.string ⟨#[c]⟩] w fun e w'=>e=.returned (.bool true)/\RS b s (i+1) w'/\w.grownBy w' (some b):=by
 have hlt:i<s.size:=by have:=(List.getElem?_eq_some_iff.1 hc).1;simpa using this
 have:=take_any b s ⟨#[c]⟩ i w (Nat.le_of_lt hlt) h hs (by show 1 < _;decide);rw[show(ByteArray.mk #[c]).data.toList=[c] from rfl,Tj,decide_eq_true hc]at this;exact this
theorem Df(b:Nat)(s:ByteArray)(i:Nat)(c:UInt8)(w:World)(hi:i<=s.size)(hc:¬s.data.toList[i]?=some c)(h:RS b s i w)(hs:s.size<2 ^ 62) :
  Calls prog 205 #[.pointer (some ⟨b,0,none⟩),.string ⟨#[c]⟩] w fun e w'=>e=.returned (.bool false)/\RS b s i w'/\w.grownBy w' (some b):=by
 have:=take_any b s ⟨#[c]⟩ i w hi h hs (by show 1 < _;decide);rw[show(ByteArray.mk #[c]).data.toList=[c] from rfl,Tj,decide_eq_false hc]at this;exact this
open Go.RowKit
def placeOf(b:Nat)(w:World):Nat:=match w.cell? ⟨b,1,none⟩ with|some (.int .i64 x)=>x.toNat|_=>0
theorem RS.place{b:Nat}{s:ByteArray}{i:Nat}{w:World}(h:RS b s i w):placeOf b w=i:=by unfold placeOf;rw[h.c1];simp
theorem aaY(b:Nat)(s:ByteArray)(i:Nat)(w:World)(hi:i<=s.size)(h:RS b s i w)(hs:s.size<2 ^ 62) :
  Calls prog 223 #[.pointer (some ⟨b,0,none⟩),.func (.func 224) #[] #[]] w fun e w'=>e=.returned (.string ⟨(aj s.data.toList i (runN aN s.data.toList i)).toArray⟩)/\RS b s (i+runN aN s.data.toList i) w'/\w.grownBy w' (some b):=by
 have h0:=h.c0;have h1:=h.c1;have HR:=ae h;obtain⟨N,hN⟩:=zN (i+runN aN s.data.toList i);have HN:Hd (N<=s.size):=by
  show N<=s.size;have:=tq aN s.data.toList i (by simpa using hi);simp at this;omega
 have HA:Hd (∀j,i<=j->(hj:j<s.size)->j<N->aN s[j]=true):=by
  show ∀j,i<=j->(hj:j<s.size)->j<N->aN s[j]=true;intro j h1 hj h2;obtain⟨g1,g2⟩:=KC aN s.data.toList i (j-i) (by omega);have e:i+(j-i)=j:=by omega
  simp only[e]at g2;exact g2
 have HS:Hd (∀hj:N<s.size,aN s[N]=false):=by
  show ∀hj:N<s.size,aN s[N]=false;intro hj;have:=Gp aN s.data.toList i (by rw[hN];simpa using hj);simp only[hN]at this;exact this
 have HT:Hd (runN aN s.data.toList i=N-i/\i<=N):=⟨by omega,by omega⟩;have HI:=ae hi;rw[show runN aN s.data.toList i=N-i by omega];obtain⟨X,hX⟩:∃X:List UInt8,X=aj s.data.toList i (N-i):=⟨_,rfl⟩;have hsl:∀wx,(Instr.slice 9 (.string s) (some (.int .i64 (i:Int))) (some (.int .i64 (N:Int))) none).run prog wx=.ok (.string ⟨X.toArray⟩) wx:=fun wx=>by rw[hX];exact lM s i N (by omega) HN.o wx
 rw[<-hX,show i+(N-i)=N by omega];clear h hN hi hX;go_enter func223,ntmps223;go_wp2;go_loopw [] (fun wr=>∃j:Nat,i<=j/\j<=N/\RS b s j wr/\w.grownBy wr (some b)) (fun wr=>s.size-placeOf b wr)
 case atStart=>exact⟨i,Nat.le_refl _,HT.o.2,HR.o,au _ _⟩
 case round =>
  obtain⟨j,hij,hjn,hrs,hgb⟩:=hrel;have d0:=hrs.c0;have d1:=hrs.c1;have df:=hrs.f1;have dD:=ae hrs;have aH:=ae hgb;have hns:=HN.o;clear hrs hgb h0 h1
  by_cases hlt:j<N
  ·have hjs:j<s.size:=by omega
   have hD:=HA.o j hij hjs hlt;have HK:Hd (i<=j/\j<N):=⟨hij,hlt⟩;clear hlt hjn hns hij;have hlt2:(j:Int)<(s.size:Int):=by omega
   go_wp2;go_quiet (first|(go_at_call 224;exact Calls.quiet_of_same (yF _ _)));go_wp2;go_roundw
   case rel =>
    have:=HK.o;exact⟨j+1,by omega,by omega,(dD.o.drew _).set (j+1),aS (ay aH.o _) _ _⟩
   case measure =>
    have e1:=dD.o.place;have e2:=((dD.o.drew nq).set (j+1)).place;rw[e1];exact Nat.lt_of_le_of_lt (Nat.le_of_eq (congrArg (s.size - ·) e2)) (by omega)
  ·have hjN:j=N:=by omega
   subst hjN
   by_cases hjs:j<s.size
   ·have hD:=HS.o hjs;have hlt2:(j:Int)<(s.size:Int):=by omega
    clear hlt hjn hns hij;go_wp2;go_quiet (first|(go_at_call 224;exact Calls.quiet_of_same (yF _ _)));go_wp2;obtain⟨W,hW⟩:=zN (wr.drewN nq);have e0:W.cell? ⟨b,0,none⟩=some (.string s):=by rw[<-hW];exact d0
    have e1:W.cell? ⟨b,1,none⟩=some (.int .i64 (j:Int)):=by rw[<-hW];exact d1
    have HW:Hd (RS b s j W/\w.grownBy W (some b)):=by
     show RS b s j W/\w.grownBy W (some b);rw[<-hW];exact⟨dD.o.drew _,ay aH.o _⟩
    rw[hW];clear hW d0 d1 df dD aH;go_quiet (fail);go_wp2;go_ret;exact⟨rfl,HW.o.1.drew _,ay HW.o.2 _⟩
   ·have hd2:decide ((j:Int)<(s.size:Int))=false:=by simp;omega
    clear hlt hjn hns hij;go_wp2;go_quiet (fail);go_wp2;obtain⟨W,hW⟩:=zN (wr.drewN nq);have e0:W.cell? ⟨b,0,none⟩=some (.string s):=by rw[<-hW];exact d0
    have e1:W.cell? ⟨b,1,none⟩=some (.int .i64 (j:Int)):=by rw[<-hW];exact d1
    have HW:Hd (RS b s j W/\w.grownBy W (some b)):=by
     show RS b s j W/\w.grownBy W (some b);rw[<-hW];exact⟨dD.o.drew _,ay aH.o _⟩
    rw[hW];clear hW d0 d1 df dD aH;go_quiet (fail);go_wp2;go_ret;exact⟨rfl,HW.o.1.drew _,ay HW.o.2 _⟩
theorem run_parts(b:Nat)(s:ByteArray)(i:Nat)(w:World)(hi:i<=s.size)(h:RS b s i w)(hs:s.size<2 ^ 62) :
  Calls prog 223 #[.pointer (some ⟨b,0,none⟩),.func (.func 235) #[] #[]] w fun e w'=>e=.returned (.string ⟨(aj s.data.toList i (runN aX s.data.toList i)).toArray⟩)/\RS b s (i+runN aX s.data.toList i) w'/\w.grownBy w' (some b):=by
 have h0:=h.c0;have h1:=h.c1;have HR:=ae h;obtain⟨N,hN⟩:=zN (i+runN aX s.data.toList i);have HN:Hd (N<=s.size):=by
  show N<=s.size;have:=tq aX s.data.toList i (by simpa using hi);simp at this;omega
 have HA:Hd (∀j,i<=j->(hj:j<s.size)->j<N->aX s[j]=true):=by
  show ∀j,i<=j->(hj:j<s.size)->j<N->aX s[j]=true;intro j h1 hj h2;obtain⟨g1,g2⟩:=KC aX s.data.toList i (j-i) (by omega);have e:i+(j-i)=j:=by omega
  simp only[e]at g2;exact g2
 have HS:Hd (∀hj:N<s.size,aX s[N]=false):=by
  show ∀hj:N<s.size,aX s[N]=false;intro hj;have:=Gp aX s.data.toList i (by rw[hN];simpa using hj);simp only[hN]at this;exact this
 have HT:Hd (runN aX s.data.toList i=N-i/\i<=N):=⟨by omega,by omega⟩;have HI:=ae hi;rw[show runN aX s.data.toList i=N-i by omega];obtain⟨X,hX⟩:∃X:List UInt8,X=aj s.data.toList i (N-i):=⟨_,rfl⟩;have hsl:∀wx,(Instr.slice 9 (.string s) (some (.int .i64 (i:Int))) (some (.int .i64 (N:Int))) none).run prog wx=.ok (.string ⟨X.toArray⟩) wx:=fun wx=>by rw[hX];exact lM s i N (by omega) HN.o wx
 rw[<-hX,show i+(N-i)=N by omega];clear h hN hi hX;go_enter func223,ntmps223;go_wp2;go_loopw [] (fun wr=>∃j:Nat,i<=j/\j<=N/\RS b s j wr/\w.grownBy wr (some b)) (fun wr=>s.size-placeOf b wr)
 case atStart=>exact⟨i,Nat.le_refl _,HT.o.2,HR.o,au _ _⟩
 case round =>
  obtain⟨j,hij,hjn,hrs,hgb⟩:=hrel;have d0:=hrs.c0;have d1:=hrs.c1;have df:=hrs.f1;have dD:=ae hrs;have aH:=ae hgb;have hns:=HN.o;clear hrs hgb h0 h1
  by_cases hlt:j<N
  ·have hjs:j<s.size:=by omega
   have hD:=HA.o j hij hjs hlt;have HK:Hd (i<=j/\j<N):=⟨hij,hlt⟩;clear hlt hjn hns hij;have hlt2:(j:Int)<(s.size:Int):=by omega
   go_wp2;go_quiet (first|(go_at_call 235;exact Calls.quiet_of_same (Ti _ _)));go_wp2;go_roundw
   case rel =>
    have:=HK.o;exact⟨j+1,by omega,by omega,(dD.o.drew _).set (j+1),aS (ay aH.o _) _ _⟩
   case measure =>
    have e1:=dD.o.place;have e2:=((dD.o.drew nq).set (j+1)).place;rw[e1];exact Nat.lt_of_le_of_lt (Nat.le_of_eq (congrArg (s.size - ·) e2)) (by omega)
  ·have hjN:j=N:=by omega
   subst hjN
   by_cases hjs:j<s.size
   ·have hD:=HS.o hjs;have hlt2:(j:Int)<(s.size:Int):=by omega
    clear hlt hjn hns hij;go_wp2;go_quiet (first|(go_at_call 235;exact Calls.quiet_of_same (Ti _ _)));go_wp2;obtain⟨W,hW⟩:=zN (wr.drewN nq);have e0:W.cell? ⟨b,0,none⟩=some (.string s):=by rw[<-hW];exact d0
    have e1:W.cell? ⟨b,1,none⟩=some (.int .i64 (j:Int)):=by rw[<-hW];exact d1
    have HW:Hd (RS b s j W/\w.grownBy W (some b)):=by
     show RS b s j W/\w.grownBy W (some b);rw[<-hW];exact⟨dD.o.drew _,ay aH.o _⟩
    rw[hW];clear hW d0 d1 df dD aH;go_quiet (fail);go_wp2;go_ret;exact⟨rfl,HW.o.1.drew _,ay HW.o.2 _⟩
   ·have hd2:decide ((j:Int)<(s.size:Int))=false:=by simp;omega
    clear hlt hjn hns hij;go_wp2;go_quiet (fail);go_wp2;obtain⟨W,hW⟩:=zN (wr.drewN nq);have e0:W.cell? ⟨b,0,none⟩=some (.string s):=by rw[<-hW];exact d0
    have e1:W.cell? ⟨b,1,none⟩=some (.int .i64 (j:Int)):=by rw[<-hW];exact d1
    have HW:Hd (RS b s j W/\w.grownBy W (some b)):=by
     show RS b s j W/\w.grownBy W (some b);rw[<-hW];exact⟨dD.o.drew _,ay aH.o _⟩
    rw[hW];clear hW d0 d1 df dD aH;go_quiet (fail);go_wp2;go_ret;exact⟨rfl,HW.o.1.drew _,ay HW.o.2 _⟩
open Go.RowKit
def St(A:Nat)(a1 a2 a3:Int)(a4 a5:ByteArray)(w:World):Prop:=w.cell? ⟨A,0,none⟩=some (.int .i64 a1)/\w.cell? ⟨A,1,none⟩=some (.int .i64 a2)/\w.cell? ⟨A,2,none⟩=some (.int .i64 a3)/\w.cell? ⟨A,3,none⟩=some (.string a4)/\w.cell? ⟨A,4,none⟩=some (.string a5)
theorem St.grow{A:Nat}{a1 a2 a3:Int}{a4 a5:ByteArray}{w w':World}(h:St A a1 a2 a3 a4 a5 w)(hg:w.grownBy w' none):St A a1 a2 a3 a4 a5 w' :=
 ⟨hg.cell h.1 (by simp),hg.cell h.2.1 (by simp),hg.cell h.2.2.1 (by simp),hg.cell h.2.2.2.1 (by simp),hg.cell h.2.2.2.2 (by simp)⟩
open Go.RowKit Go.Shelf
theorem aaZ(s:ByteArray)(w:World)(hlim:s.size<=281474976710656) :
  Calls prog 217 #[.string s] w fun e w'=>e=.returned (.string s)/\Below w.heap.size w w':=Any.stringslite_Clone Tryz.lays316 s w hlim
theorem clone_any(s:ByteArray)(w:World)(hlim:s.size<=281474976710656) :
  Calls prog 194 #[.string s] w fun e w'=>e=.returned (.string s)/\w.grownBy w' none:=by
 have C:=ae (fun w=>aaZ s w hlim);clear hlim;go_enter func194,ntmps194;go_wp2_with (go_at_call 217;refine(C.o _).mono ?_;rintro e w1 ⟨rfl,hb⟩);go_ret;exact⟨rfl,⟨hb.os,hb.tape,hb.output,hb.size,fun k hk _=>hb.block k hk⟩⟩
open Go.RowKit
theorem GY{a:ByteArray}(h:a.size=0):a.toList.isEmpty=true:=by
 rw[Lib.toList_data,List.isEmpty_iff];exact List.length_eq_zero_iff.1 (by simpa using h)
theorem GZ{a:ByteArray}(h:a.size≠0):a.toList.isEmpty=false:=by
 rw[Lib.toList_data]
 cases hl:a.data.toList with
 | nil=>exact absurd (show a.size=0 from by show a.data.size=0;rw[<-Array.length_toList,hl];rfl) h
 | cons c l=>rfl
theorem RS.grow{b:Nat}{s:ByteArray}{i:Nat}{w w':World}(h:RS b s i w)(hg:w.grownBy w' none):RS b s i w':=by
 obtain⟨t,h⟩:=h;exact⟨t,by rw[hg.block b ((dO h)) (by simp)];exact h⟩
theorem Tm(s:ByteArray)(w:World):Calls prog 225 #[.string s] w fun e w'=>e=.returned (.bool (decide (1<s.data.toList.length) && decide (s.data.toList[0]?=some 48)))/\w'=w:=by
 by_cases h1:1<s.size
 ·have h0:0<s.size:=by omega
  have hl:decide (1<s.data.toList.length)=true:=by simp;exact h1
  rw[hl,Bool.true_and,lL s 0 h0]
  cases hz:((s[0].toNat:Int) == 48) with
  | true =>
   have hc:s[0]=48:=UInt8.toNat_inj.1 (by have:=eq_of_beq hz;have e48:(48:UInt8).toNat=48:=rfl;omega);have HZ:Hd (decide (some s[0]=some (48:UInt8))=true):=by show decide _=true;rw[hc];rfl
   rw[HZ.o];clear hc hl;go_enter func225,ntmps225;go_wp2;go_ret;exact⟨rfl,rfl⟩
  | false =>
   have HZ:Hd (decide (some s[0]=some (48:UInt8))=false):=by
    show decide _=false;apply decide_eq_false;intro e;rw[Option.some.inj e]at hz;exact absurd hz (by decide)
   rw[HZ.o];clear hl;go_enter func225,ntmps225;go_wp2;go_ret;exact⟨rfl,rfl⟩
 ·have hl:decide (1<s.data.toList.length)=false:=by simp;exact Nat.le_of_not_lt h1
  rw[hl,Bool.false_and];clear hl;go_enter func225,ntmps225;go_wp2;go_ret;exact⟨rfl,rfl⟩
theorem aa0(b:Nat)(s:ByteArray)(i:Nat)(w:World)(hi:i<=s.size)(h:RS b s i w)(hs:s.size<2 ^ 62) :
  Calls prog 226 #[.pointer (some ⟨b,0,none⟩),.int .i64 0] w fun e w'=>e=.returned (.int .i64 (aQ true s.data.toList i).1)/\RS b s (aQ true s.data.toList i).2 w'/\w.grownBy w' (some b):=by
 have HI:Hd (RS b s i w/\i<=s.size):=⟨h,hi⟩;obtain⟨E,Q,jM⟩:∃E Q,aQ true s.data.toList i=(E,Q):=⟨_,_,rfl⟩;rw[jM];have yL:=ae jM;have hsl:s.data.toList.length=s.size:=by simp
 have iJ:=ae hsl;clear h hi jM hsl;go_enter func226,ntmps226;go_wp2;go_loopw [] (fun wr=>∃j:Nat,j<=s.size/\RS b s j wr/\w.grownBy wr (some b)/\aQ true s.data.toList j=(E,Q)) (fun wr=>s.size-placeOf b wr)
 case atStart=>exact⟨i,HI.o.2,HI.o.1,au _ _,yL.o⟩
 case round =>
  obtain⟨j,hj,hrs,hgb,hrd⟩:=hrel;have CR:=ae (run_parts b s j wr hj hrs hs);have lS:=ae hrs.place;have d1:=hrs.c1;have hle:j+runN aX s.data.toList j<=s.size:=by have:=tq aX s.data.toList j (by rw[iJ.o];exact hj);rw[iJ.o]at this;exact this
  have hln:=tu s.data.toList j (runN aX s.data.toList j) (by rw[iJ.o];exact hle);rw[Gs]at hrd;obtain⟨k,hk⟩:=zN (runN aX s.data.toList j);rw[hk]at CR hrd hle hln;obtain⟨T,hT⟩:=zN (aj s.data.toList j k);rw[hT]at CR hrd hln;obtain⟨X,hX⟩:∃X:ByteArray,X=⟨T.toArray⟩:=⟨_,rfl⟩;rw[<-hX]at CR;have zY:Hd (X.data.toList=T):=by show X.data.toList=T;rw[hX]
  have jD:X.size=k:=by rw[hX];show T.toArray.size=k;simpa using hln
  have aH:=ae hgb;have dD:=ae hrs;have dJ:=ae hrd;clear hk hT hX hgb hrs hrd hln
  by_cases hk0:k=0
  ·have e1:=GY (jD.trans hk0);have HZ:Hd (E=2/\Q=j):=by
    have:=dJ.o;rw[if_pos hk0]at this;exact⟨(congrArg Prod.fst this).symm,(congrArg Prod.snd this).symm⟩
   have HK:=ae hk0;clear hk0 jD hle;go_wp2_with (go_at_call 223;refine CR.o.mono ?_);rintro e w1 ⟨rfl,hr1,hg1⟩;have HF:Hd (RS b s Q w1/\w.grownBy w1 (some b)):=by
    refine⟨?_,ai aH.o hg1⟩;rw[HZ.o.2];rw[HK.o]at hr1;exact hr1
   clear hr1 hg1;go_wp2;go_ret;exact⟨dB HZ.o.1.symm,HF.o.1,HF.o.2⟩
  ·have e1:=GZ (fun h=>hk0 (jD.symm.trans h));have qc:Hd (X.data.toList.isEmpty=false):=by show X.data.toList.isEmpty=false;rw[<-Lib.toList_data];exact e1
   have HK:=ae hk0;have Tq:X.size<2 ^ 62:=by omega
   have G5:=ae hle;clear hk0 jD hle;go_wp2_with (go_at_call 223;refine CR.o.mono ?_);rintro e w1 ⟨rfl,hr1,hg1⟩;have HR1:=ae hr1;have ax:=ae (ai aH.o hg1);clear hr1 hg1;have CD:=ae (fun w=>Tf X w Tq);obtain⟨dX,Lt⟩:=zN (pW X.data.toList);rw[Lt]at CD;have HDX:Hd (T.all aN=dX):=by
    show T.all aN=dX;rw[<-Lt];unfold pW;rw[qc.o,zY.o];rfl
   obtain⟨z,hz⟩:=zN ((decide (1<X.data.toList.length) && decide (X.data.toList[0]?=some 48)));have CZ:Hd (∀w,Calls prog 225 #[.string X] w fun e w'=>e=.returned (.bool z)/\w'=w):=fun w=>by rw[<-hz];exact Tm X w
   have qh:Hd (kL true T=(dX && z)):=by
    show kL true T=_;rw[<-hz,<-HDX.o,zY.o];rfl
   clear Lt hz;go_wp2_with (go_at_call 236;refine(CD.o _).mono ?_);rintro e w2 ⟨rfl,hg2⟩;replace HR1:=ae (HR1.o.grow hg2);replace ax:=ae (ai ax.o (GX hg2 _));clear hg2
   cases dX with
   | false =>
    have HB:Hd (kL true T=false):=by show kL true T=false;rw[qh.o];rfl
    cases hc:decide (s.data.toList[j+k]?=some 46) with
    | true =>
     have hc':=of_decide_eq_true hc;have HT:Hd (aQ true s.data.toList (j+k+1)=(E,Q)):=by
      have:=dJ.o;rw[if_neg HK.o,if_neg (by rw[HB.o];simp),if_pos hc']at this;exact this
     have CT:=ae (CO b s (j+k) 46 w2 hc' HR1.o hs);have bP:Hd (j+k<s.size):=by have:=(List.getElem?_eq_some_iff.1 hc').1;rw[iJ.o]at this;exact this
     clear hc hc';go_wp2_with (go_at_call 205;refine CT.o.mono ?_);rintro e w3 ⟨rfl,hr3,hg3⟩;have HF:Hd (RS b s (j+k+1) w3/\w.grownBy w3 (some b)):=⟨hr3,ai ax.o hg3⟩;clear hr3 hg3;go_wp2;go_roundw
     case rel=>exact⟨j+k+1,bP.o,HF.o.1,HF.o.2,HT.o⟩
     case measure =>
      rw[lS.o,HF.o.1.place];have:=bP.o;omega
    | false =>
     have hc':=of_decide_eq_false hc;have HT:Hd (E=0/\Q=j+k):=by
      have:=dJ.o;rw[if_neg HK.o,if_neg (by rw[HB.o];simp),if_neg hc']at this;exact⟨(congrArg Prod.fst this).symm,(congrArg Prod.snd this).symm⟩
     have CT:=ae (Df b s (j+k) 46 w2 G5.o hc' HR1.o hs);clear hc hc';go_wp2_with (go_at_call 205;refine CT.o.mono ?_);rintro e w3 ⟨rfl,hr3,hg3⟩;have HF:Hd (RS b s (j+k) w3/\w.grownBy w3 (some b)):=⟨hr3,ai ax.o hg3⟩;clear hr3 hg3;go_wp2;go_ret;exact⟨dB HT.o.1.symm,by rw[HT.o.2];exact HF.o.1,HF.o.2⟩
   | true =>
    cases z with
    | true =>
     have HZ:Hd (E=2/\Q=j):=by
      have:=dJ.o;rw[if_neg HK.o,if_pos (by rw[qh.o];rfl)]at this;exact⟨(congrArg Prod.fst this).symm,(congrArg Prod.snd this).symm⟩
     have f1:=HR1.o.c1;have f2:=HR1.o.f1;go_wp2_with (go_at_call 225;refine(CZ.o _).mono ?_;rintro e w' ⟨rfl,rfl⟩);go_ret;exact⟨dB HZ.o.1.symm,by rw[HZ.o.2];exact HR1.o.set j,aS ax.o _ _⟩
    | false =>
     have HB:Hd (kL true T=false):=by show kL true T=false;rw[qh.o];rfl
     cases hc:decide (s.data.toList[j+k]?=some 46) with
     | true =>
      have hc':=of_decide_eq_true hc;have HT:Hd (aQ true s.data.toList (j+k+1)=(E,Q)):=by
       have:=dJ.o;rw[if_neg HK.o,if_neg (by rw[HB.o];simp),if_pos hc']at this;exact this
      have CT:=ae (CO b s (j+k) 46 w2 hc' HR1.o hs);have bP:Hd (j+k<s.size):=by have:=(List.getElem?_eq_some_iff.1 hc').1;rw[iJ.o]at this;exact this
      clear hc hc';go_wp2_with (first|(go_at_call 225;refine(CZ.o _).mono ?_;rintro e w' ⟨rfl,rfl⟩)|(go_at_call 205;refine CT.o.mono ?_));rintro e w3 ⟨rfl,hr3,hg3⟩;have HF:Hd (RS b s (j+k+1) w3/\w.grownBy w3 (some b)):=⟨hr3,ai ax.o hg3⟩;clear hr3 hg3;go_wp2;go_roundw
      case rel=>exact⟨j+k+1,bP.o,HF.o.1,HF.o.2,HT.o⟩
      case measure =>
       rw[lS.o,HF.o.1.place];have:=bP.o;omega
     | false =>
      have hc':=of_decide_eq_false hc;have HT:Hd (E=0/\Q=j+k):=by
       have:=dJ.o;rw[if_neg HK.o,if_neg (by rw[HB.o];simp),if_neg hc']at this;exact⟨(congrArg Prod.fst this).symm,(congrArg Prod.snd this).symm⟩
      have CT:=ae (Df b s (j+k) 46 w2 G5.o hc' HR1.o hs);clear hc hc';go_wp2_with (first|(go_at_call 225;refine(CZ.o _).mono ?_;rintro e w' ⟨rfl,rfl⟩)|(go_at_call 205;refine CT.o.mono ?_));rintro e w3 ⟨rfl,hr3,hg3⟩;have HF:Hd (RS b s (j+k) w3/\w.grownBy w3 (some b)):=⟨hr3,ai ax.o hg3⟩;clear hr3 hg3;go_wp2;go_ret;exact⟨dB HT.o.1.symm,by rw[HT.o.2];exact HF.o.1,HF.o.2⟩
theorem aa1(b:Nat)(s:ByteArray)(i:Nat)(w:World)(hi:i<=s.size)(h:RS b s i w)(hs:s.size<2 ^ 62) :
  Calls prog 226 #[.pointer (some ⟨b,0,none⟩),.int .i64 1] w fun e w'=>e=.returned (.int .i64 (aQ false s.data.toList i).1)/\RS b s (aQ false s.data.toList i).2 w'/\w.grownBy w' (some b):=by
 have HI:Hd (RS b s i w/\i<=s.size):=⟨h,hi⟩;obtain⟨E,Q,jM⟩:∃E Q,aQ false s.data.toList i=(E,Q):=⟨_,_,rfl⟩;rw[jM];have yL:=ae jM;have hsl:s.data.toList.length=s.size:=by simp
 have iJ:=ae hsl;clear h hi jM hsl;go_enter func226,ntmps226;go_wp2;go_loopw [] (fun wr=>∃j:Nat,j<=s.size/\RS b s j wr/\w.grownBy wr (some b)/\aQ false s.data.toList j=(E,Q)) (fun wr=>s.size-placeOf b wr)
 case atStart=>exact⟨i,HI.o.2,HI.o.1,au _ _,yL.o⟩
 case round =>
  obtain⟨j,hj,hrs,hgb,hrd⟩:=hrel;have CR:=ae (run_parts b s j wr hj hrs hs);have lS:=ae hrs.place;have d1:=hrs.c1;have hle:j+runN aX s.data.toList j<=s.size:=by have:=tq aX s.data.toList j (by rw[iJ.o];exact hj);rw[iJ.o]at this;exact this
  have hln:=tu s.data.toList j (runN aX s.data.toList j) (by rw[iJ.o];exact hle);rw[Gs]at hrd;obtain⟨k,hk⟩:=zN (runN aX s.data.toList j);rw[hk]at CR hrd hle hln;obtain⟨T,hT⟩:=zN (aj s.data.toList j k);rw[hT]at CR hrd hln;obtain⟨X,hX⟩:∃X:ByteArray,X=⟨T.toArray⟩:=⟨_,rfl⟩;rw[<-hX]at CR;have zY:Hd (X.data.toList=T):=by show X.data.toList=T;rw[hX]
  have jD:X.size=k:=by rw[hX];show T.toArray.size=k;simpa using hln
  have aH:=ae hgb;have dD:=ae hrs;have dJ:=ae hrd;clear hk hT hX hgb hrs hrd hln
  by_cases hk0:k=0
  ·have e1:=GY (jD.trans hk0);have HZ:Hd (E=2/\Q=j):=by
    have:=dJ.o;rw[if_pos hk0]at this;exact⟨(congrArg Prod.fst this).symm,(congrArg Prod.snd this).symm⟩
   have HK:=ae hk0;clear hk0 jD hle;go_wp2_with (go_at_call 223;refine CR.o.mono ?_);rintro e w1 ⟨rfl,hr1,hg1⟩;have HF:Hd (RS b s Q w1/\w.grownBy w1 (some b)):=by
    refine⟨?_,ai aH.o hg1⟩;rw[HZ.o.2];rw[HK.o]at hr1;exact hr1
   clear hr1 hg1;go_wp2;go_ret;exact⟨dB HZ.o.1.symm,HF.o.1,HF.o.2⟩
  ·have e1:=GZ (fun h=>hk0 (jD.symm.trans h));have qc:Hd (X.data.toList.isEmpty=false):=by show X.data.toList.isEmpty=false;rw[<-Lib.toList_data];exact e1
   have HK:=ae hk0;have Tq:X.size<2 ^ 62:=by omega
   have G5:=ae hle;clear hk0 jD hle;go_wp2_with (go_at_call 223;refine CR.o.mono ?_);rintro e w1 ⟨rfl,hr1,hg1⟩;have HR1:=ae hr1;have ax:=ae (ai aH.o hg1);clear hr1 hg1;have HB:Hd (kL false T=false):=rfl
   cases hc:decide (s.data.toList[j+k]?=some 46) with
   | true =>
    have hc':=of_decide_eq_true hc;have HT:Hd (aQ false s.data.toList (j+k+1)=(E,Q)):=by
     have:=dJ.o;rw[if_neg HK.o,if_neg (by rw[HB.o];simp),if_pos hc']at this;exact this
    have CT:=ae (CO b s (j+k) 46 w1 hc' HR1.o hs);have bP:Hd (j+k<s.size):=by have:=(List.getElem?_eq_some_iff.1 hc').1;rw[iJ.o]at this;exact this
    clear hc hc';go_wp2_with (go_at_call 205;refine CT.o.mono ?_);rintro e w3 ⟨rfl,hr3,hg3⟩;have HF:Hd (RS b s (j+k+1) w3/\w.grownBy w3 (some b)):=⟨hr3,ai ax.o hg3⟩;clear hr3 hg3;go_wp2;go_roundw
    case rel=>exact⟨j+k+1,bP.o,HF.o.1,HF.o.2,HT.o⟩
    case measure =>
     rw[lS.o,HF.o.1.place];have:=bP.o;omega
   | false =>
    have hc':=of_decide_eq_false hc;have HT:Hd (E=0/\Q=j+k):=by
     have:=dJ.o;rw[if_neg HK.o,if_neg (by rw[HB.o];simp),if_neg hc']at this;exact⟨(congrArg Prod.fst this).symm,(congrArg Prod.snd this).symm⟩
    have CT:=ae (Df b s (j+k) 46 w1 G5.o hc' HR1.o hs);clear hc hc';go_wp2_with (go_at_call 205;refine CT.o.mono ?_);rintro e w3 ⟨rfl,hr3,hg3⟩;have HF:Hd (RS b s (j+k) w3/\w.grownBy w3 (some b)):=⟨hr3,ai ax.o hg3⟩;clear hr3 hg3;go_wp2;go_ret;exact⟨dB HT.o.1.symm,by rw[HT.o.2];exact HF.o.1,HF.o.2⟩
open Go.RowKit
theorem Tt(T:List UInt8)(m:Nat)(hm:m<T.length):bK (T.take (m+1))=10*bK (T.take m)+((T[m].toNat:Int)-48):=by
 rw[List.take_succ_eq_append_getElem hm,Ry];rfl
theorem aa2(b:Nat)(s:ByteArray)(i:Nat)(w:World)(hi:i<=s.size)(h:RS b s i w)(hs:s.size<2 ^ 62) :
  Calls prog 206 #[.pointer (some ⟨b,0,none⟩)] w fun e w'=>e=.returned (.tuple #[.int .i64 (rdNum s.data.toList i).2.1,.int .i64 (rdNum s.data.toList i).1])/\RS b s (rdNum s.data.toList i).2.2 w'/\w.grownBy w' (some b):=by
 obtain⟨E,V,Q,jM⟩:∃E V Q,rdNum s.data.toList i=(E,V,Q):=⟨_,_,_,rfl⟩;rw[jM];have hsl:s.data.toList.length=s.size:=by simp
 have CR:=ae (aaY b s i w hi h hs);have d1:=h.c1;have hle:i+runN aN s.data.toList i<=s.size:=by have:=tq aN s.data.toList i (by rw[hsl];exact hi);rw[hsl]at this;exact this
 have hln:=tu s.data.toList i (runN aN s.data.toList i) (by rw[hsl];exact hle);have hall:=Gt aN s.data.toList i;have hT0:∀k,0<k->i+k<=s.data.toList.length->(aj s.data.toList i k)[0]?=s.data.toList[i]?:=by
  intro k hk hik;unfold aj;rw[List.getElem?_take_of_lt hk,List.getElem?_drop];rfl
 unfold rdNum at jM;obtain⟨k,hk⟩:=zN (runN aN s.data.toList i);rw[hk]at CR jM hle hln hall;have Lu:=hT0 k;obtain⟨T,hT⟩:=zN (aj s.data.toList i k);rw[hT]at CR jM hln hall Lu;obtain⟨X,hX⟩:∃X:ByteArray,X=⟨T.toArray⟩:=⟨_,rfl⟩;rw[<-hX]at CR;have zY:Hd (X.data.toList=T):=by show X.data.toList=T;rw[hX]
 have jD:X.size=k:=by rw[hX];show T.toArray.size=k;simpa using hln
 have yL:=ae jM;have qi:Hd (T.all aN=true/\T.length=k/\(0<k->T[0]?=s.data.toList[i]?)):=⟨hall,hln,fun h=>Lu h (by rw[hsl];exact hle)⟩;clear hk hT hX jM hln hall hT0 Lu h hsl hi
 by_cases hk0:k=0
 ·have e1:=GY (jD.trans hk0);have HZ:Hd (E=2/\V=0/\Q=i+k):=by
   have:=yL.o;rw[if_pos hk0]at this;exact⟨(congrArg Prod.fst this).symm,(congrArg (·.2.1) this).symm,by rw[hk0];exact(congrArg (·.2.2) this).symm⟩
  clear hk0 jD hle;go_enter func206,ntmps206;go_wp2_with (go_at_call 223;refine CR.o.mono ?_);rintro e w1 ⟨rfl,hr1,hg1⟩;have HF:Hd (RS b s Q w1/\w.grownBy w1 (some b)):=⟨by rw[HZ.o.2.2];exact hr1,hg1⟩;clear hr1 hg1;go_wp2;refine bodyPost_ret (results_tmp2 rfl _ _ _) rfl ⟨?_,HF.o.1,HF.o.2⟩;rw[HZ.o.1,HZ.o.2.1];rfl
 ·have e1:=GZ (fun h=>hk0 (jD.symm.trans h));obtain⟨z,hz⟩:=zN ((decide (1<X.data.toList.length) && decide (X.data.toList[0]?=some 48)));have CZ:Hd (∀w,Calls prog 225 #[.string X] w fun e w'=>e=.returned (.bool z)/\w'=w):=fun w=>by rw[<-hz];exact Tm X w
  have Tu:Hd (z=decide (1<k/\s.data.toList[i]?=some 48)):=by
   show z=_;rw[<-hz,zY.o,qi.o.2.1,qi.o.2.2 (by omega)];rw[Bool.eq_iff_iff];simp
  have HK:=ae hk0;clear hz hk0;go_enter func206,ntmps206;go_wp2_with (go_at_call 223;refine CR.o.mono ?_);rintro e w1 ⟨rfl,hr1,hg1⟩;have HR1:=ae hr1;have ax:=ae hg1;have f1:=hr1.c1;have f2:=hr1.f1;clear hr1 hg1
  cases z with
  | true =>
   have HZ:Hd (E=2/\V=0/\Q=i):=by
    have:=yL.o;rw[if_neg HK.o,if_pos (of_decide_eq_true Tu.o.symm)]at this;exact⟨(congrArg Prod.fst this).symm,(congrArg (·.2.1) this).symm,(congrArg (·.2.2) this).symm⟩
   go_wp2_with (go_at_call 225;refine(CZ.o _).mono ?_;rintro e w' ⟨rfl,rfl⟩);refine bodyPost_ret (results_tmp2 rfl _ _ _) rfl ⟨?_,by rw[HZ.o.2.2];exact HR1.o.set i,aS ax.o _ _⟩;rw[HZ.o.1,HZ.o.2.1];rfl
  | false =>
   have HV:Hd ((if bK T > 999999999 then(3,0,i) else(0,bK T,i+k))=(E,V,Q)):=by
    have:=yL.o;rw[if_neg HK.o,if_neg (of_decide_eq_false Tu.o.symm)]at this;exact this
   have kw:=Lib.run_convert_string_bytes (P:=prog) w1 9 90 5 X underlying9 underlying90 underlying5;obtain⟨W,hW⟩:=zN (Lib.bytesWorld w1 5 X);have HC:Hd (∀j,(hj:j<X.size)->W.cell? ⟨w1.heap.size,j,none⟩=some (.int .u8 (X[j].toNat:Int))):=by
    show ∀j,(hj:j<X.size)->W.cell? ⟨w1.heap.size,j,none⟩=some (.int .u8 (X[j].toNat:Int));intro j hj;rw[<-hW,Lib.bytesWorld_cell w1 _ X j hj];have:X.data.toList.getD j 0=X[j]:=by
     rw[List.getD_eq_getElem?_getD,lL X j hj];rfl
    rw[this]
   have hgW:w1.grownBy W none:=by rw[<-hW];exact Lr w1 _ X
   rw[hW]at kw;have HRW:=ae (HR1.o.grow hgW);have fJ:=ae (ai ax.o (GX hgW _));have g1:=HRW.o.c1;have g2:=HRW.o.f1;clear hW hgW f1 f2;go_wp2_with (go_at_call 225;refine(CZ.o _).mono ?_;rintro e w' ⟨rfl,rfl⟩);have HXk:=ae jD;have hks:k<2 ^ 62:=by omega
   clear jD hle
   go_loop [6,26] (fun vn vi=>∃m:Nat,m<=k/\vi=.int .i64 m/\vn=.int .i64 (bK (T.take m))/\bK (T.take m)<=999999999) (fun _ vi=>k-(intOf vi).toNat)
   case atStart=>exact⟨0,Nat.zero_le _,rfl,rfl,by show(0:Int)<=_;omega⟩
   case round =>
    obtain⟨m,hm,rfl,rfl,hvm⟩:=hrel
    by_cases hlt:m<k
    ·have G6:m<T.length:=by rw[qi.o.2.1];exact hlt
     have LC:m<X.size:=by rw[HXk.o];exact hlt
     have Tz:X[m]=T[m]:=by
      have:=lL X m LC;rw[zY.o,List.getElem?_eq_getElem G6]at this;exact(Option.some.inj this).symm
     have cm:=HC.o m LC;have hdg:=zS (List.all_eq_true.1 qi.o.1 T[m] (List.getElem_mem G6));have hvt:=Tt T m G6;have hv0:0<=bK (T.take m):=Gq _ (List.all_eq_true.2 (fun c hc=>List.all_eq_true.1 qi.o.1 c (List.mem_of_mem_take hc)));have hpre:bK (T.take (m+1))<=bK T:=by
      have:=Rz (T.take (m+1)) (T.drop (m+1)) (by rw[List.take_append_drop];exact qi.o.1);rw[List.take_append_drop]at this;exact this
     rw[Tz]at cm;obtain⟨c,hc⟩:∃c:Int,c=(T[m].toNat:Int):=⟨_,rfl⟩;rw[<-hc]at cm hvt;obtain⟨v,hv⟩:∃v,v=bK (T.take m):=⟨_,rfl⟩;rw[<-hv]at hvt hv0 hvm;rw[<-hv];have hc0:48<=c/\c<=57:=by omega
     have r1:IntKind.i64.wrap (10*v)=10*v:=by rw[IntKind.wrap_i64];omega
     have r2:IntKind.u8.wrap (c-48)=c-48:=by rw[IntKind.wrap_u8];omega
     have r3:IntKind.i64.wrap (c-48)=c-48:=by rw[IntKind.wrap_i64];omega
     have r4:IntKind.i64.wrap (10*v+(c-48))=10*v+(c-48):=by rw[IntKind.wrap_i64];omega
     have LD:Hd (bK (T.take (m+1))=10*v+(c-48)/\bK (T.take (m+1))<=bK T):=⟨hvt,hpre⟩;clear hc hv Tz hdg hvt hpre G6 LC
     by_cases hbig:999999999<10*v+(c-48)
     ·have HZ:Hd (E=3/\V=0/\Q=i):=by
       have h1:=LD.o;have:=HV.o;rw[if_pos (by omega)]at this;exact⟨(congrArg Prod.fst this).symm,(congrArg (·.2.1) this).symm,(congrArg (·.2.2) this).symm⟩
      go_wp2;refine bodyPost_ret (results_tmp2 rfl _ _ _) rfl ⟨?_,by rw[HZ.o.2.2];exact HRW.o.set i,aS fJ.o _ _⟩;rw[HZ.o.1,HZ.o.2.1];rfl
     ·go_wp2
      go_round
      case rel=>exact⟨m+1,by omega,by go_num,by rw[LD.o.1],by rw[LD.o.1];omega⟩
      case measure=>simp[intOf];omega
    ·have hmk:m=k:=by omega
     have HTk:Hd (T.take m=T):=by show T.take m=T;rw[hmk];exact List.take_of_length_le (by rw[qi.o.2.1];exact Nat.le_refl _)
     have HZ:Hd (E=0/\V=bK (T.take m)/\Q=i+k):=by
      have:=HV.o;rw[HTk.o]at hvm ⊢;rw[if_neg (by omega)]at this;exact⟨(congrArg Prod.fst this).symm,(congrArg (·.2.1) this).symm,(congrArg (·.2.2) this).symm⟩
     clear hmk hm hvm;go_wp2;refine bodyPost_ret (results_tmp2 rfl _ _ _) rfl ⟨?_,by rw[HZ.o.2.2];exact HRW.o,fJ.o⟩;rw[HZ.o.1,HZ.o.2.1];rfl
end Go.Proofs.YtnnbgjaphfhibaaGreatDoor
