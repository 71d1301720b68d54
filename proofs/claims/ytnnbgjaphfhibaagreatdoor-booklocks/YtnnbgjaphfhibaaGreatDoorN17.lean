import Derived.Test.YtnnbgjaphfhibaaGreatDoorN12
import Derived.OwnWalk
import Derived.Test.YtnnbgjaphfhibaaGreatDoorN08
set_option linter.unusedVariables false
set_option linter.unusedSimpArgs false
set_option maxRecDepth 100000
set_option maxHeartbeats 6400000
open Go.Proofs.Tryz
namespace Go.Proofs.YtnnbgjaphfhibaaGreatDoor
open Go.RowKit
def bf(l:List UInt8)(i:Nat):Int × Nat × List UInt8 × List UInt8 :=
 if(bP 45 true l i).1=0 then
  (if(bP 43 false l (bP 45 true l i).2.1).1=0 then(0,(bP 43 false l (bP 45 true l i).2.1).2.1,(bP 45 true l i).2.2,(bP 43 false l (bP 45 true l i).2.1).2.2)
  else((bP 43 false l (bP 45 true l i).2.1).1,(bP 43 false l (bP 45 true l i).2.1).2.1,[],[]))
 else((bP 45 true l i).1,(bP 45 true l i).2.1,[],[])
theorem yU{c:UInt8}{st:Bool}{l:List UInt8}{i:Nat}(h:l[i]?=some c):bP c st l i=((aH st l (i+1)).1,(aH st l (i+1)).2,ik st l (i+1)):=by
 unfold bP ik;rw[if_pos h]
 by_cases h0:(aH st l (i+1)).1=0
 ·rw[if_pos h0,if_pos h0,h0]
 ·rw[if_neg h0,if_neg h0]
theorem yV{c:UInt8}{st:Bool}{l:List UInt8}{i:Nat}(h:¬l[i]?=some c):bP c st l i=(0,i,[]):=by unfold bP;rw[if_neg h]
theorem Rk{st:Bool}{l:List UInt8}{i:Nat}(hi:i<=l.length)(h:(aH st l i).1=0):(aH st l i).2<=l.length:=(IL st l _ i rfl hi h).2.1
theorem Rl{c:UInt8}{st:Bool}{l:List UInt8}{i:Nat}(hi:i<=l.length)(h:(bP c st l i).1=0):(bP c st l i).2.1<=l.length:=by
 by_cases hc:l[i]?=some c
 ·rw[yU hc]at h ⊢;exact Rk (by have:=(List.getElem?_eq_some_iff.1 hc).1;omega) h
 ·rw[yV hc];exact hi
theorem Z5(b:Nat)(s:ByteArray)(i:Nat)(w:World)(hi:i<=s.size)(h:RS b s i w)(hs:s.size<=281474976710656) :
  Calls prog 168 #[.pointer (some ⟨b,0,none⟩)] w fun e w'=>e=.returned (.tuple #[.string ⟨(bf s.data.toList i).2.2.1.toArray⟩,.string ⟨(bf s.data.toList i).2.2.2.toArray⟩,.int .i64 (bf s.data.toList i).1])/\RS b s (bf s.data.toList i).2.1 w'/\w.grownBy w' (some b):=by
 have jZ:Hd (s.data.toList.length=s.size):=by show s.data.toList.length=s.size;simp
 have TY:Hd (∀(c:UInt8) i w,s.data.toList[i]?=some c->RS b s i w->Calls prog 205 #[.pointer (some ⟨b,0,none⟩),.string ⟨#[c]⟩] w fun e w'=>e=.returned (.bool true)/\RS b s (i+1) w'/\w.grownBy w' (some b)):=fun c i w hc h=>Am b s i c w hc h (by omega)
 have TN:Hd (∀(c:UInt8) i w,i<=s.size->¬s.data.toList[i]?=some c->RS b s i w->Calls prog 205 #[.pointer (some ⟨b,0,none⟩),.string ⟨#[c]⟩] w fun e w'=>e=.returned (.bool false)/\RS b s i w'/\w.grownBy w' (some b)):=fun c i w hi hc h=>Ap b s i c w hi hc h (by omega)
 have PP:Hd (∀i w,i<=s.size->RS b s i w->Calls prog 207 #[.pointer (some ⟨b,0,none⟩),.int .i64 0] w fun e w'=>e=.returned (.tuple #[.string ⟨(ik true s.data.toList i).toArray⟩,.int .i64 (aH true s.data.toList i).1])/\RS b s (aH true s.data.toList i).2 w'/\w.grownBy w' (some b)):=fun i w hi h=>YP b s i w hi h (by omega)
 have PB:Hd (∀i w,i<=s.size->RS b s i w->Calls prog 207 #[.pointer (some ⟨b,0,none⟩),.int .i64 1] w fun e w'=>e=.returned (.tuple #[.string ⟨(ik false s.data.toList i).toArray⟩,.int .i64 (aH false s.data.toList i).1])/\RS b s (aH false s.data.toList i).2 w'/\w.grownBy w' (some b)):=fun i w hi h=>YQ b s i w hi h (by omega)
 have HI:Hd (RS b s i w):=h;have jo:Hd (i<=s.size):=hi;obtain⟨E,J,P,B,hT⟩:∃E J P B,bf s.data.toList i=(E,J,P,B):=⟨_,_,_,_,rfl⟩;rw[hT];have HT:Hd (bf s.data.toList i=(E,J,P,B)):=hT;clear hT h hi hs
 cases hc1:decide (s.data.toList[i]?=some 45) with
 | false =>
  have hc':=of_decide_eq_false hc1;have nI:Hd (bP 45 true s.data.toList (i)=(0,i,[])):=yV hc';have CT:Hd (Calls prog 205 #[.pointer (some ⟨b,0,none⟩),.string ⟨#[45]⟩] w fun e w'=>e=.returned (.bool false)/\RS b s (i) w'/\w.grownBy w' (some b)):=TN.o 45 (i) w jo.o hc' HI.o;have HJ:Hd (i<=s.size):=jo.o;clear hc1 hc';go_enter func168,ntmps168;go_wp2_with (go_at_call 205;refine CT.o.mono ?_);rintro e u1 ⟨rfl,hr,hg⟩;have HR1:Hd (RS b s i u1):=hr;have ay:Hd (w.grownBy u1 (some b)):=hg;clear hr hg
  cases hc2:decide (s.data.toList[i]?=some 43) with
  | false =>
   have hc':=of_decide_eq_false hc2;have lM:Hd (bP 43 false s.data.toList (i)=(0,i,[])):=yV hc';have CT:Hd (Calls prog 205 #[.pointer (some ⟨b,0,none⟩),.string ⟨#[43]⟩] u1 fun e w'=>e=.returned (.bool false)/\RS b s (i) w'/\u1.grownBy w' (some b)):=TN.o 43 (i) u1 HJ.o hc' HR1.o;clear hc2 hc';go_wp2_with (go_at_call 205;refine CT.o.mono ?_);rintro e v1 ⟨rfl,hr,hg⟩;have HF:Hd (RS b s (i) v1/\w.grownBy v1 (some b)):=⟨hr,ai ay.o hg⟩;clear hr hg;have HV:Hd (E=0/\J=i/\P=[]/\B=[]):=by
    have e:=HT.o;unfold bf at e;rw[nI.o]at e;simp only[if_true]at e;rw[lM.o]at e;simp only[if_true]at e;exact⟨(congrArg Prod.fst e).symm,(congrArg (·.2.1) e).symm,(congrArg (·.2.2.1) e).symm,(congrArg (·.2.2.2) e).symm⟩
   go_wp2;refine bodyPost_ret (results_tmp3 rfl _ _ _) rfl ⟨?_,by rw[HV.o.2.1];exact HF.o.1,HF.o.2⟩;rw[HV.o.1,HV.o.2.2.1,HV.o.2.2.2];rfl
  | true =>
   have hc':=of_decide_eq_true hc2;have hO2:bP 43 false s.data.toList (i)=((aH false s.data.toList (i+1)).1,(aH false s.data.toList (i+1)).2,ik false s.data.toList (i+1)):=yU hc';have CT:Hd (Calls prog 205 #[.pointer (some ⟨b,0,none⟩),.string ⟨#[43]⟩] u1 fun e w'=>e=.returned (.bool true)/\RS b s (i+1) w'/\u1.grownBy w' (some b)):=TY.o 43 (i) u1 hc' HR1.o;have HJ2:Hd (i+1<=s.size):=by have:=(List.getElem?_eq_some_iff.1 hc').1;rw[jZ.o]at this;exact this
   have CB:Hd (∀w,RS b s (i+1) w->Calls prog 207 #[.pointer (some ⟨b,0,none⟩),.int .i64 1] w fun e w'=>e=.returned (.tuple #[.string ⟨(ik false s.data.toList (i+1)).toArray⟩,.int .i64 (aH false s.data.toList (i+1)).1])/\RS b s (aH false s.data.toList (i+1)).2 w'/\w.grownBy w' (some b)):=fun w h=>PB.o (i+1) w HJ2.o h
   obtain⟨E2,J2,hE2⟩:∃E J,aH false s.data.toList (i+1)=(E,J):=⟨_,_,rfl⟩;obtain⟨P2,hP2⟩:∃P,ik false s.data.toList (i+1)=P:=⟨_,rfl⟩;have oh:¬E2=0->P2=[]:=fun h=>by rw[<-hP2];unfold ik;rw[hE2,if_neg h]
   rw[hE2,hP2]at CB hO2;simp only at CB hO2;have lM:Hd (bP 43 false s.data.toList (i)=(E2,J2,P2)):=hO2;have yX:Hd (¬E2=0->P2=[]):=oh;clear hc2 hc' hE2 hP2 hO2 oh;go_wp2_with (go_at_call 205;refine CT.o.mono ?_);rintro e v1 ⟨rfl,hr,hg⟩;have JO:Hd (RS b s (i+1) v1):=hr;have JP:Hd (w.grownBy v1 (some b)):=ai ay.o hg;clear hr hg;have JQ:Hd (Calls prog 207 #[.pointer (some ⟨b,0,none⟩),.int .i64 1] v1 fun e w'=>e=.returned (.tuple #[.string ⟨P2.toArray⟩,.int .i64 E2])/\RS b s J2 w'/\v1.grownBy w' (some b)):=CB.o v1 JO.o;go_wp2_with (go_at_call 207;refine JQ.o.mono ?_);rintro e v2 ⟨rfl,hr,hg⟩;have HF:Hd (RS b s J2 v2/\w.grownBy v2 (some b)):=⟨hr,ai JP.o hg⟩;clear hr hg
   cases hz2:(E2 == 0) with
   | false =>
    have h0:¬E2=0:=by simpa using hz2
    have HV:Hd (E=E2/\J=J2/\P=[]/\B=[]):=by
     have e:=HT.o;unfold bf at e;rw[nI.o]at e;simp only[if_true]at e;rw[lM.o]at e;simp only[if_neg h0]at e;exact⟨(congrArg Prod.fst e).symm,(congrArg (·.2.1) e).symm,(congrArg (·.2.2.1) e).symm,(congrArg (·.2.2.2) e).symm⟩
    clear h0;go_wp2;refine bodyPost_ret (results_tmp3 rfl _ _ _) rfl ⟨?_,by rw[HV.o.2.1];exact HF.o.1,HF.o.2⟩;rw[HV.o.1,HV.o.2.2.1,HV.o.2.2.2];rfl
   | true =>
    have h0:E2=0:=by simpa using hz2
    subst h0;have HV:Hd (E=0/\J=J2/\P=[]/\B=P2):=by
     have e:=HT.o;unfold bf at e;rw[nI.o]at e;simp only[if_true]at e;rw[lM.o]at e;simp only[if_true]at e;exact⟨(congrArg Prod.fst e).symm,(congrArg (·.2.1) e).symm,(congrArg (·.2.2.1) e).symm,(congrArg (·.2.2.2) e).symm⟩
    go_wp2;refine bodyPost_ret (results_tmp3 rfl _ _ _) rfl ⟨?_,by rw[HV.o.2.1];exact HF.o.1,HF.o.2⟩;rw[HV.o.1,HV.o.2.2.1,HV.o.2.2.2];rfl
 | true =>
  have hc':=of_decide_eq_true hc1;have Fv:bP 45 true s.data.toList (i)=((aH true s.data.toList (i+1)).1,(aH true s.data.toList (i+1)).2,ik true s.data.toList (i+1)):=yU hc';have CT:Hd (Calls prog 205 #[.pointer (some ⟨b,0,none⟩),.string ⟨#[45]⟩] w fun e w'=>e=.returned (.bool true)/\RS b s (i+1) w'/\w.grownBy w' (some b)):=TY.o 45 (i) w hc' HI.o;have qL:Hd (i+1<=s.size):=by have:=(List.getElem?_eq_some_iff.1 hc').1;rw[jZ.o]at this;exact this
  have CA:Hd (∀w,RS b s (i+1) w->Calls prog 207 #[.pointer (some ⟨b,0,none⟩),.int .i64 0] w fun e w'=>e=.returned (.tuple #[.string ⟨(ik true s.data.toList (i+1)).toArray⟩,.int .i64 (aH true s.data.toList (i+1)).1])/\RS b s (aH true s.data.toList (i+1)).2 w'/\w.grownBy w' (some b)):=fun w h=>PP.o (i+1) w qL.o h
  have JR:Hd ((aH true s.data.toList (i+1)).1=0->(aH true s.data.toList (i+1)).2<=s.size):=fun h=>by have:=Rk (st:=true) (l:=s.data.toList) (i:=i+1) (by rw[jZ.o];exact qL.o) h;rw[jZ.o]at this;exact this
  obtain⟨E1,J1,hE1⟩:∃E J,aH true s.data.toList (i+1)=(E,J):=⟨_,_,rfl⟩;obtain⟨P1,hP1⟩:∃P,ik true s.data.toList (i+1)=P:=⟨_,rfl⟩;rw[hE1,hP1]at CA Fv;rw[hE1]at JR;simp only at CA Fv JR;have nI:Hd (bP 45 true s.data.toList (i)=(E1,J1,P1)):=Fv;clear hc1 hc' hE1 hP1 Fv;go_enter func168,ntmps168;go_wp2_with (go_at_call 205;refine CT.o.mono ?_);rintro e u1 ⟨rfl,hr,hg⟩;have JS:Hd (RS b s (i+1) u1):=hr;have JU:Hd (w.grownBy u1 (some b)):=hg;clear hr hg;have Z7:Hd (Calls prog 207 #[.pointer (some ⟨b,0,none⟩),.int .i64 0] u1 fun e w'=>e=.returned (.tuple #[.string ⟨P1.toArray⟩,.int .i64 E1])/\RS b s J1 w'/\u1.grownBy w' (some b)):=CA.o u1 JS.o;go_wp2_with (go_at_call 207;refine Z7.o.mono ?_);rintro e u2 ⟨rfl,hr,hg⟩;have HR1:Hd (RS b s J1 u2):=hr;have ay:Hd (w.grownBy u2 (some b)):=ai JU.o hg;clear hr hg
  cases hz1:(E1 == 0) with
  | false =>
   have h0:¬E1=0:=by simpa using hz1
   have HV:Hd (E=E1/\J=J1/\P=[]/\B=[]):=by
    have e:=HT.o;unfold bf at e;rw[nI.o]at e;simp only[if_neg h0]at e;exact⟨(congrArg Prod.fst e).symm,(congrArg (·.2.1) e).symm,(congrArg (·.2.2.1) e).symm,(congrArg (·.2.2.2) e).symm⟩
   clear h0;go_wp2;refine bodyPost_ret (results_tmp3 rfl _ _ _) rfl ⟨?_,by rw[HV.o.2.1];exact HR1.o,ay.o⟩;rw[HV.o.1,HV.o.2.2.1,HV.o.2.2.2];rfl
  | true =>
   have h0:E1=0:=by simpa using hz1
   subst h0;have HJ:Hd (J1<=s.size):=JR.o rfl;clear hz1
   cases hc2:decide (s.data.toList[J1]?=some 43) with
   | false =>
    have hc':=of_decide_eq_false hc2;have lM:Hd (bP 43 false s.data.toList (J1)=(0,J1,[])):=yV hc';have CT:Hd (Calls prog 205 #[.pointer (some ⟨b,0,none⟩),.string ⟨#[43]⟩] u2 fun e w'=>e=.returned (.bool false)/\RS b s (J1) w'/\u2.grownBy w' (some b)):=TN.o 43 (J1) u2 HJ.o hc' HR1.o;clear hc2 hc';go_wp2_with (go_at_call 205;refine CT.o.mono ?_);rintro e v1 ⟨rfl,hr,hg⟩;have HF:Hd (RS b s (J1) v1/\w.grownBy v1 (some b)):=⟨hr,ai ay.o hg⟩;clear hr hg;have HV:Hd (E=0/\J=J1/\P=P1/\B=[]):=by
     have e:=HT.o;unfold bf at e;rw[nI.o]at e;simp only[if_true]at e;rw[lM.o]at e;simp only[if_true]at e;exact⟨(congrArg Prod.fst e).symm,(congrArg (·.2.1) e).symm,(congrArg (·.2.2.1) e).symm,(congrArg (·.2.2.2) e).symm⟩
    go_wp2;refine bodyPost_ret (results_tmp3 rfl _ _ _) rfl ⟨?_,by rw[HV.o.2.1];exact HF.o.1,HF.o.2⟩;rw[HV.o.1,HV.o.2.2.1,HV.o.2.2.2];rfl
   | true =>
    have hc':=of_decide_eq_true hc2;have hO2:bP 43 false s.data.toList (J1)=((aH false s.data.toList (J1+1)).1,(aH false s.data.toList (J1+1)).2,ik false s.data.toList (J1+1)):=yU hc';have CT:Hd (Calls prog 205 #[.pointer (some ⟨b,0,none⟩),.string ⟨#[43]⟩] u2 fun e w'=>e=.returned (.bool true)/\RS b s (J1+1) w'/\u2.grownBy w' (some b)):=TY.o 43 (J1) u2 hc' HR1.o;have HJ2:Hd (J1+1<=s.size):=by have:=(List.getElem?_eq_some_iff.1 hc').1;rw[jZ.o]at this;exact this
    have CB:Hd (∀w,RS b s (J1+1) w->Calls prog 207 #[.pointer (some ⟨b,0,none⟩),.int .i64 1] w fun e w'=>e=.returned (.tuple #[.string ⟨(ik false s.data.toList (J1+1)).toArray⟩,.int .i64 (aH false s.data.toList (J1+1)).1])/\RS b s (aH false s.data.toList (J1+1)).2 w'/\w.grownBy w' (some b)):=fun w h=>PB.o (J1+1) w HJ2.o h
    obtain⟨E2,J2,hE2⟩:∃E J,aH false s.data.toList (J1+1)=(E,J):=⟨_,_,rfl⟩;obtain⟨P2,hP2⟩:∃P,ik false s.data.toList (J1+1)=P:=⟨_,rfl⟩;have oh:¬E2=0->P2=[]:=fun h=>by rw[<-hP2];unfold ik;rw[hE2,if_neg h]
    rw[hE2,hP2]at CB hO2;simp only at CB hO2;have lM:Hd (bP 43 false s.data.toList (J1)=(E2,J2,P2)):=hO2;have yX:Hd (¬E2=0->P2=[]):=oh;clear hc2 hc' hE2 hP2 hO2 oh;go_wp2_with (go_at_call 205;refine CT.o.mono ?_);rintro e v1 ⟨rfl,hr,hg⟩;have JO:Hd (RS b s (J1+1) v1):=hr;have JP:Hd (w.grownBy v1 (some b)):=ai ay.o hg;clear hr hg;have JQ:Hd (Calls prog 207 #[.pointer (some ⟨b,0,none⟩),.int .i64 1] v1 fun e w'=>e=.returned (.tuple #[.string ⟨P2.toArray⟩,.int .i64 E2])/\RS b s J2 w'/\v1.grownBy w' (some b)):=CB.o v1 JO.o;go_wp2_with (go_at_call 207;refine JQ.o.mono ?_);rintro e v2 ⟨rfl,hr,hg⟩;have HF:Hd (RS b s J2 v2/\w.grownBy v2 (some b)):=⟨hr,ai JP.o hg⟩;clear hr hg
    cases hz2:(E2 == 0) with
    | false =>
     have h0:¬E2=0:=by simpa using hz2
     have HV:Hd (E=E2/\J=J2/\P=[]/\B=[]):=by
      have e:=HT.o;unfold bf at e;rw[nI.o]at e;simp only[if_true]at e;rw[lM.o]at e;simp only[if_neg h0]at e;exact⟨(congrArg Prod.fst e).symm,(congrArg (·.2.1) e).symm,(congrArg (·.2.2.1) e).symm,(congrArg (·.2.2.2) e).symm⟩
     clear h0;go_wp2;refine bodyPost_ret (results_tmp3 rfl _ _ _) rfl ⟨?_,by rw[HV.o.2.1];exact HF.o.1,HF.o.2⟩;rw[HV.o.1,HV.o.2.2.1,HV.o.2.2.2];rfl
    | true =>
     have h0:E2=0:=by simpa using hz2
     subst h0;have HV:Hd (E=0/\J=J2/\P=P1/\B=P2):=by
      have e:=HT.o;unfold bf at e;rw[nI.o]at e;simp only[if_true]at e;rw[lM.o]at e;simp only[if_true]at e;exact⟨(congrArg Prod.fst e).symm,(congrArg (·.2.1) e).symm,(congrArg (·.2.2.1) e).symm,(congrArg (·.2.2.2) e).symm⟩
     go_wp2;refine bodyPost_ret (results_tmp3 rfl _ _ _) rfl ⟨?_,by rw[HV.o.2.1];exact HF.o.1,HF.o.2⟩;rw[HV.o.1,HV.o.2.2.1,HV.o.2.2.2];rfl
open Go.RowKit
def JV(b:Nat)(s:ByteArray)(w:World)(e:Ending)(w':World):Prop :=
 ∃(x1 x2 x3:Int) (x4 x5:List UInt8) (E:Int) (j:Nat),e=.returned (.tuple #[.agg #[.int .i64 x1,.int .i64 x2,.int .i64 x3,.string ⟨x4.toArray⟩,.string ⟨x5.toArray⟩],.int .i64 E]) ∧
  RS b s j w'/\w.grownBy w' (some b)/\E=(dZ s.data.toList).1/\(E=0->(dZ s.data.toList).2.2=⟨x1,x2,x3,x4,x5⟩)/\(E≠0->(dZ s.data.toList).2.1=j)
theorem Z8{b:Nat}{s:ByteArray}{i:Nat}{w:World}(h:RS b s i w)(o1 o2:Obj):RS b s i ((w.alloc o1).alloc o2):=h.grow (dn (dn (ak w none) o1) o2)
theorem Fz(w:World)(o1 o2:Obj):((w.alloc o1).alloc o2).heap[w.heap.size+1]?=some o2:=by
 have:=heap_alloc_new (w.alloc o1) o2;simpa using this
theorem Z9{b A:Nat}{s:ByteArray}{j:Nat}{w:World}(h:RS b s j w)(hn:b≠A)(y1 y2 y3:Int)(x4 x5:ByteArray):RS b s j (tV w A y1 y2 y3 x4 x5):=((((h.other hn _ _).other hn _ _).other hn _ _).other hn _ _).other hn _ _
theorem Rn(l:List UInt8):dZ l=if(bQ l).1=0 then(if(bf l (bQ l).2.1).1=0 then(if(bf l (bQ l).2.1).2.1<l.length then(2,(bf l (bQ l).2.1).2.1,zeroV) else(0,0,⟨(bQ l).2.2.1,(bQ l).2.2.2.1,(bQ l).2.2.2.2,(bf l (bQ l).2.1).2.2.1,(bf l (bQ l).2.1).2.2.2⟩)) else((bf l (bQ l).2.1).1,(bf l (bQ l).2.1).2.1,zeroV)) else((bQ l).1,(bQ l).2.1,zeroV):=by
 unfold dZ bf
 by_cases h1:(bQ l).1=0
 ·rw[if_pos h1,if_pos h1]
  by_cases h2:(bP 45 true l (bQ l).2.1).1=0
  ·simp only[if_pos h2]
   by_cases h3:(bP 43 false l (bP 45 true l (bQ l).2.1).2.1).1=0
   ·simp only[if_pos h3,if_true]
   ·simp only[if_neg h3]
  ·simp only[if_neg h2]
 ·rw[if_neg h1,if_neg h1]
theorem aab(b:Nat)(s:ByteArray)(w:World)(h:RS b s 0 w)(hs:s.size<=100) :
  Calls prog 127 #[.pointer (some ⟨b,0,none⟩)] w (JV b s w):=by
 have HB:Hd (b<w.heap.size):=by obtain⟨t,h⟩:=h;exact(kG h)
 have HI:Hd (RS b s 0 w):=h;have CN:Hd (∀v w,RS b s 0 w->VB v 0 0 0 w->b≠v->Calls prog 167 #[.pointer (some ⟨b,0,none⟩),.pointer (some ⟨v,0,none⟩)] w fun e w'=>e=.returned (.int .i64 (bQ s.data.toList).1)/\RS b s (bQ s.data.toList).2.1 w'/\(∃y1 y2 y3,VB v y1 y2 y3 w'/\((bQ s.data.toList).1=0->(y1,y2,y3)=(bQ s.data.toList).2.2))/\G2 b v w w'):=fun v w h1 h2 h3=>YO b v s w h1 h2 h3 (by omega)
 have FB:Hd (∀i w,i<=s.size->RS b s i w->Calls prog 168 #[.pointer (some ⟨b,0,none⟩)] w fun e w'=>e=.returned (.tuple #[.string ⟨(bf s.data.toList i).2.2.1.toArray⟩,.string ⟨(bf s.data.toList i).2.2.2.toArray⟩,.int .i64 (bf s.data.toList i).1])/\RS b s (bf s.data.toList i).2.1 w'/\w.grownBy w' (some b)):=fun i w hi h=>Z5 b s i w hi h (by omega)
 have jZ:Hd (s.data.toList.length=s.size):=by show s.data.toList.length=s.size;simp
 clear h hs;have qM:=Rn s.data.toList;obtain⟨E0,J0,X1,X2,X3,hN⟩:∃E J A B C,bQ s.data.toList=(E,J,A,B,C):=⟨_,_,_,_,_,rfl⟩;obtain⟨E1,J1,P1,B1,hT⟩:∃E J P B,bf s.data.toList J0=(E,J,P,B):=⟨_,_,_,_,rfl⟩;rw[hN]at CN qM;simp only at CN qM;rw[hT]at qM;simp only at qM;have FC:Hd (E0=0->J0<=s.size):=fun h0=>by
  have:=(Xj s.data.toList (by rw[hN];exact h0)).1;rw[hN,jZ.o]at this;exact this
 have qL:Hd (J0<=s.size->E1=0->J1<=s.size):=fun hj h0=>by
  rw[<-jZ.o]at hj ⊢;unfold bf at hT
  by_cases h2:(bP 45 true s.data.toList J0).1=0
  ·have l1:=Rl hj h2;rw[if_pos h2]at hT
   by_cases h3:(bP 43 false s.data.toList (bP 45 true s.data.toList J0).2.1).1=0
   ·rw[if_pos h3]at hT;have l2:=Rl l1 h3;have e:=congrArg (·.2.1) hT;simp only at e;rw[<-e];exact l2
   ·rw[if_neg h3]at hT;exact absurd ((congrArg Prod.fst hT).trans h0) h3
  ·rw[if_neg h2]at hT;exact absurd ((congrArg Prod.fst hT).trans h0) h2
 have CT0:Hd (∀w,J0<=s.size->RS b s J0 w->Calls prog 168 #[.pointer (some ⟨b,0,none⟩)] w fun e w'=>e=.returned (.tuple #[.string ⟨P1.toArray⟩,.string ⟨B1.toArray⟩,.int .i64 E1])/\RS b s J1 w'/\w.grownBy w' (some b)):=fun w hj h=>by
  have:=FB.o J0 w hj h;rw[hT]at this;exact this
 have HV:Hd (dZ s.data.toList=if E0=0 then(if E1=0 then(if J1<s.data.toList.length then(2,J1,zeroV) else(0,0,⟨X1,X2,X3,P1,B1⟩)) else(E1,J1,zeroV)) else(E0,J0,zeroV)):=qM;clear hN hT qM FB;go_enter func127,ntmps127;go_wp2_with (go_at_call 167;refine(CN.o _ _ (Z8 HI.o _ _) (Fz w _ _) (by have:=HB.o;omega)).mono ?_);rintro e w1 ⟨rfl,hr1,⟨y1,y2,y3,hvb,hy⟩,hg1⟩;obtain⟨A,hA⟩:=zN (w.heap.size);have rW:Hd (VX A 0 0 0 ⟨#[]⟩ ⟨#[]⟩ w1):=by
  show w1.heap[A]?=_;rw[<-hA,hg1.block w.heap.size (by simp;omega) (by have:=HB.o;omega) (by omega),Lib.alloc_old _ _ _ (by simp)];exact heap_alloc_new w _
 have HG:Hd (w.grownBy w1 (some b)):=by
  refine⟨hg1.os,hg1.tape,hg1.output,by have:=hg1.size;simp at this;omega,fun k hk hn=>?_⟩;rw[hg1.block k (by simp;omega) (by simpa using hn) (by omega),Lib.alloc_old _ _ _ (by simp;omega),Lib.alloc_old _ _ _ hk]
 have HR1:Hd (RS b s J0 w1):=hr1;have HY:Hd (E0=0->(y1,y2,y3)=(X1,X2,X3)):=hy;have HX:Hd (VX (A+1) y1 y2 y3 ⟨#[]⟩ ⟨#[]⟩ w1):=by rw[<-hA];exact hvb
 have Bg:Hd (b<A):=by rw[<-hA];exact HB.o
 have Bh:Hd (w.heap.size<=A):=Nat.le_of_eq hA;rw[hA];clear hA hr1 hvb hy hg1;have END:Hd (∀(W:World) (j:Nat) (z1 z2 z3:Int) (x4 x5:List UInt8) (E:Int),RS b s j W->VX A 0 0 0 ⟨#[]⟩ ⟨#[]⟩ W->w.grownBy W (some b)->E=(dZ s.data.toList).1->(E=0->(dZ s.data.toList).2.2=⟨z1,z2,z3,x4,x5⟩)->(E≠0->(dZ s.data.toList).2.1=j) →
   VX A z1 z2 z3 ⟨x4.toArray⟩ ⟨x5.toArray⟩ (tV W A z1 z2 z3 ⟨x4.toArray⟩ ⟨x5.toArray⟩)/\JV b s w (.returned (.tuple #[.agg #[.int .i64 z1,.int .i64 z2,.int .i64 z3,.string ⟨x4.toArray⟩,.string ⟨x5.toArray⟩],.int .i64 E])) (tV W A z1 z2 z3 ⟨x4.toArray⟩ ⟨x5.toArray⟩)):=by
  intro W j z1 z2 z3 x4 x5 E h1 h2 h3 h4 h5 h6;exact⟨Je h2 _ _ _ _ _,z1,z2,z3,x4,x5,E,j,rfl,Z9 h1 (by have:=Bg.o;omega) _ _ _ _ _,XQ h3 Bh.o _ _ _ _ _,h4,h5,h6⟩
 cases hz:(E0 == 0) with
 | false =>
  obtain⟨v0,v1,v2,v3,v4⟩:=HX.o.cells;obtain⟨ca0,ca1,ca2,ca3,ca4⟩:=rW.o.cells;have ra:=rW.o.f;have HE:Hd (E0=(dZ s.data.toList).1/\(dZ s.data.toList).2.1=J0/\E0≠0):=by
   have h0:¬E0=0:=by simpa using hz
   refine⟨?_,?_,h0⟩<;>(rw[HV.o,if_neg h0])
  go_wp2;obtain⟨hrow,hpost⟩:=END.o w1 J0 0 0 0 [] [] E0 HR1.o rW.o HG.o HE.o.1 (fun h=>absurd h HE.o.2.2) (fun _=>HE.o.2.1);exact bodyPost_ret (EI (p:=2) (u:=3) rfl _ _ A _ _ (0,0) _ rfl hrow underlying147 rfl (by kernel_rfl)) rfl hpost
 | true =>
  have hE:E0=0:=by simpa using hz
  subst hE;clear hz;have hj0:=FC.o rfl;have qN:Hd (dZ s.data.toList=if E1=0 then(if J1<s.data.toList.length then(2,J1,zeroV) else(0,0,⟨X1,X2,X3,P1,B1⟩)) else(E1,J1,zeroV)):=by
   show dZ s.data.toList=_;rw[HV.o,if_pos rfl]
  have HY2:Hd (y1=X1/\y2=X2/\y3=X3):=by
   have hy:=HY.o rfl;simp only[Prod.mk.injEq]at hy;exact hy
  clear HV HY;have CTw:Hd (Calls prog 168 #[.pointer (some ⟨b,0,none⟩)] w1 fun e w'=>e=.returned (.tuple #[.string ⟨P1.toArray⟩,.string ⟨B1.toArray⟩,.int .i64 E1])/\RS b s J1 w'/\w1.grownBy w' (some b)):=CT0.o w1 hj0 HR1.o;have HJs:Hd (E1=0->J1<=s.size):=qL.o hj0;clear hj0;go_wp2_with (first|(go_at_call 168;refine CTw.o.mono ?_));rintro e u1 ⟨rfl,hr,hg⟩;have JS:Hd (RS b s J1 u1):=hr;have JW:Hd (VX (A+1) y1 y2 y3 ⟨#[]⟩ ⟨#[]⟩ u1):=HX.o.grow hg (by have:=Bg.o;omega);have JX:Hd (VX A 0 0 0 ⟨#[]⟩ ⟨#[]⟩ u1):=rW.o.grow hg (by have:=Bg.o;omega);have JU:Hd (w.grownBy u1 (some b)):=ai HG.o hg;clear hr hg;obtain⟨v0,v1,v2,v3,v4⟩:=JW.o.cells;have rv:=JW.o.f;obtain⟨ca0,ca1,ca2,ca3,ca4⟩:=JX.o.cells;have ra:=JX.o.f;obtain⟨U,hU⟩:=zN ((u1.setCell ⟨A+1,3,none⟩ (.string ⟨P1.toArray⟩)).setCell ⟨A+1,4,none⟩ (.string ⟨B1.toArray⟩));have FD:Hd (RS b s J1 U):=by
   show RS b s J1 U;rw[<-hU];exact(JS.o.other (by have:=Bg.o;omega) _ _).other (by have:=Bg.o;omega) _ _
  have HXU:Hd (VX (A+1) y1 y2 y3 ⟨P1.toArray⟩ ⟨B1.toArray⟩ U):=by
   show VX _ _ _ _ _ _ U;rw[<-hU];exact(JW.o.set3 _).set4 _
  have JY:Hd (VX A 0 0 0 ⟨#[]⟩ ⟨#[]⟩ U):=by
   show VX _ _ _ _ _ _ U;rw[<-hU];exact(JX.o.other (by omega) _ _).other (by omega) _ _
  have JZ:Hd (w.grownBy U (some b)):=by
   show w.grownBy U (some b);have:=Bh.o;rw[<-hU];exact xx (xx JU.o (by omega) _ _) (by omega) _ _
  have CE:Hd (Calls prog 169 #[.pointer (some ⟨b,0,none⟩)] ((u1.setCell ⟨A+1,3,none⟩ (.string ⟨P1.toArray⟩)).setCell ⟨A+1,4,none⟩ (.string ⟨B1.toArray⟩)) fun e w'=>e=.returned (.bool (decide (J1=s.size)))/\∃n,w'=U.drewN n):=by
   show Calls _ _ _ _ _;rw[hU];exact XT b s J1 U FD.o
  have HU:Hd ((u1.setCell ⟨A+1,3,none⟩ (.string ⟨P1.toArray⟩)).setCell ⟨A+1,4,none⟩ (.string ⟨B1.toArray⟩)=U):=hU;clear hU
  cases hz1:(E1 == 0) with
  | false =>
   have HE:Hd (E1=(dZ s.data.toList).1/\(dZ s.data.toList).2.1=J1/\E1≠0):=by
    have h0:¬E1=0:=by simpa using hz1
    refine⟨?_,?_,h0⟩<;>(rw[qN.o,if_neg h0])
   go_wp2;obtain⟨hrow,hpost⟩:=END.o U J1 0 0 0 [] [] E1 FD.o JY.o JZ.o HE.o.1 (fun h=>absurd h HE.o.2.2) (fun _=>HE.o.2.1);rw[HU.o];exact bodyPost_ret (EI (p:=2) (u:=3) rfl _ _ A _ _ (0,0) _ rfl hrow underlying147 rfl (by kernel_rfl)) rfl hpost
  | true =>
   have h0:E1=0:=by simpa using hz1
   subst h0;clear hz1;have hj:=HJs.o rfl
   cases hJ:decide (J1=s.size) with
   | false =>
    rw[hJ]at CE;have HE:Hd ((2:Int)=(dZ s.data.toList).1/\(dZ s.data.toList).2.1=J1):=by
     have h1:J1<s.data.toList.length:=by rw[jZ.o];have:=of_decide_eq_false hJ;omega
     refine⟨?_,?_⟩<;>(rw[qN.o,if_pos rfl,if_pos h1])
    clear hj hJ;go_wp2_with (go_at_call 169;refine CE.o.mono ?_);rintro e u2 ⟨rfl,n,hn⟩;have HR2:Hd (RS b s J1 u2):=by show RS b s J1 u2;rw[hn];exact FD.o.drew n
    have HA2:Hd (VX A 0 0 0 ⟨#[]⟩ ⟨#[]⟩ u2):=by show VX _ _ _ _ _ _ u2;rw[hn];exact JY.o
    have HG2:Hd (w.grownBy u2 (some b)):=by show w.grownBy u2 (some b);rw[hn];exact au JZ.o n
    clear hn v0 v1 v2 v3 v4 rv ca0 ca1 ca2 ca3 ca4 ra;obtain⟨ca0,ca1,ca2,ca3,ca4⟩:=HA2.o.cells;have ra:=HA2.o.f;go_wp2;obtain⟨hrow,hpost⟩:=END.o u2 J1 0 0 0 [] [] 2 HR2.o HA2.o HG2.o HE.o.1 (fun h=>absurd h (by decide)) (fun _=>HE.o.2);exact bodyPost_ret (EI (p:=2) (u:=3) rfl _ _ A _ _ (0,0) _ rfl hrow underlying147 rfl (by kernel_rfl)) rfl hpost
   | true =>
    rw[hJ]at CE;have HE:Hd ((0:Int)=(dZ s.data.toList).1/\(dZ s.data.toList).2.2=⟨y1,y2,y3,P1,B1⟩):=by
     have h1:¬J1<s.data.toList.length:=by rw[jZ.o];have:=of_decide_eq_true hJ;omega
     obtain⟨e1,e2,e3⟩:=HY2.o;refine⟨?_,?_⟩<;>(rw[qN.o,if_pos rfl,if_neg h1])
     rw[e1,e2,e3]
    clear hj hJ;go_wp2_with (go_at_call 169;refine CE.o.mono ?_);rintro e u2 ⟨rfl,n,hn⟩;have HR2:Hd (RS b s J1 u2):=by show RS b s J1 u2;rw[hn];exact FD.o.drew n
    have HA2:Hd (VX A 0 0 0 ⟨#[]⟩ ⟨#[]⟩ u2):=by show VX _ _ _ _ _ _ u2;rw[hn];exact JY.o
    have HX2:Hd (VX (A+1) y1 y2 y3 ⟨P1.toArray⟩ ⟨B1.toArray⟩ u2):=by show VX _ _ _ _ _ _ u2;rw[hn];exact HXU.o
    have HG2:Hd (w.grownBy u2 (some b)):=by show w.grownBy u2 (some b);rw[hn];exact au JZ.o n
    clear hn v0 v1 v2 v3 v4 rv ca0 ca1 ca2 ca3 ca4 ra;obtain⟨ca0,ca1,ca2,ca3,ca4⟩:=HA2.o.cells;have ra:=HA2.o.f;obtain⟨v0,v1,v2,v3,v4⟩:=HX2.o.cells;go_wp2;obtain⟨hrow,hpost⟩:=END.o u2 J1 y1 y2 y3 P1 B1 0 HR2.o HA2.o HG2.o HE.o.1 (fun _=>HE.o.2) (fun h=>absurd rfl h);exact bodyPost_ret (EI (p:=2) (u:=3) rfl _ _ A _ _ (0,0) _ rfl hrow underlying147 rfl (by kernel_rfl)) rfl hpost
open Go.RowKit
theorem aac(l:List UInt8)(h:¬(dZ l).1=0):(dZ l).2.2=zeroV:=by
 unfold dZ at h ⊢
 repeat' split
 all_goals first|rfl|(exfalso;simp_all)
theorem aad(l:List UInt8)(h:(dZ l).1=0):(dZ l).2.1=0:=by
 unfold dZ at h ⊢
 repeat' split
 all_goals first|rfl|(exfalso;simp_all)
def Ro(v:Vv):Value:=.agg #[.int .i64 v.major,.int .i64 v.minor,.int .i64 v.patch,.string ⟨v.pre.toArray⟩,.string ⟨v.build.toArray⟩]
theorem parse_any(s:ByteArray)(w:World)(hs:s.size<2 ^ 62) :
  Calls prog 90 #[.string s] w fun e w'=>e=.returned (.tuple #[Ro (jV s.data.toList).2.2,.int .i64 (jV s.data.toList).1,.int .i64 ((jV s.data.toList).2.1:Nat)])/\w.grownBy w' none:=by
 by_cases h100:100<s.size
 ·have hp:jV s.data.toList=(1,0,zeroV):=by unfold jV;rw[if_pos (by simpa using h100)]
  rw[hp];clear hp;go_enter func90,ntmps90;go_wp2;exact bodyPost_ret (oW (p:=2) (u:=3) (r:=4) rfl _ _ w.heap.size _ _ (0,0) _ rfl (heap_alloc_new w _) underlying147 rfl (by kernel_rfl)) rfl ⟨rfl,dn (ak w none) _⟩
 ·have hp:jV s.data.toList=dZ s.data.toList:=by unfold jV;rw[if_neg (by simpa using h100)]
  rw[hp];have CV:Hd (∀b w,RS b s 0 w->Calls prog 127 #[.pointer (some ⟨b,0,none⟩)] w (JV b s w)):=fun b w h=>aab b s w h (by omega)
  clear hp hs;go_enter func90,ntmps90;go_wp2_with (go_at_call 127;refine(CV.o _ _ ⟨_,Fz w _ _⟩).mono ?_);rintro e w1 ⟨x1,x2,x3,x4,x5,E,j,rfl,hr,hg,hE,hok,herr⟩;obtain⟨A,hA⟩:=zN (w.heap.size);have rW:Hd (VX A 0 0 0 ⟨#[]⟩ ⟨#[]⟩ w1):=by
   show w1.heap[A]?=_;rw[<-hA,hg.block w.heap.size (by simp;omega) (by simp),Lib.alloc_old _ _ _ (by simp)];exact heap_alloc_new w _
  have HG:Hd (w.grownBy w1 none):=by
   refine⟨hg.os,hg.tape,hg.output,by have:=hg.size;simp at this;omega,fun k hk _=>?_⟩;rw[hg.block k (by simp;omega) (by simp;omega),Lib.alloc_old _ _ _ (by simp;omega),Lib.alloc_old _ _ _ hk]
  have Bh:Hd (w.heap.size<=A):=Nat.le_of_eq hA;have HE:Hd (E=(dZ s.data.toList).1/\(E=0->(dZ s.data.toList).2.2=⟨x1,x2,x3,x4,x5⟩)/\(E≠0->(dZ s.data.toList).2.1=j)):=⟨hE,hok,herr⟩;rw[hA]at hr;have HR:Hd (RS (A+1) s j w1):=hr;rw[hA];clear hA hr hg hE hok herr;obtain⟨ca0,ca1,ca2,ca3,ca4⟩:=rW.o.cells;have ra:=rW.o.f;have r1:=HR.o.c1;have hlt1:A+1<w1.heap.size:=by obtain⟨t,h⟩:=HR.o;exact(kG h)
  have hlt0:A<w1.heap.size:=by omega
  cases hz:(E == 0) with
  | false =>
   go_wp2;obtain⟨W,hW⟩:=zN (w1.alloc (.cells #[.int .i64 x1,.int .i64 x2,.int .i64 x3,.string ⟨x4.toArray⟩,.string ⟨x5.toArray⟩] 147));have hgW:w1.grownBy W none:=by rw[<-hW];exact dn (ak w1 none) _
   have J5:Hd (VX A 0 0 0 ⟨#[]⟩ ⟨#[]⟩ W):=by show W.heap[A]?=_;rw[hgW.block A hlt0 (by simp)];exact rW.o
   have HRW:Hd (RS (A+1) s j W):=HR.o.grow hgW;have gV:Hd (w.grownBy W none):=ai HG.o hgW;rw[hW];clear hW hgW ca0 ca1 ca2 ca3 ca4 ra r1 hlt0 hlt1 HR HG rW;obtain⟨ca0,ca1,ca2,ca3,ca4⟩:=J5.o.cells;have ra:=J5.o.f;have r1:=HRW.o.c1;have HF:Hd ((dZ s.data.toList).2.2=zeroV/\(dZ s.data.toList).2.1=j/\(dZ s.data.toList).1=E):=by
    have h0:¬E=0:=by simpa using hz
    have h:=HE.o;exact⟨aac _ (by rw[<-h.1];exact h0),h.2.2 h0,h.1.symm⟩
   go_region
   go_wp2;refine bodyPost_ret (oW (p:=2) (u:=3) (r:=4) rfl _ _ A _ _ (0,0) _ rfl (Je J5.o 0 0 0 ⟨#[]⟩ ⟨#[]⟩) underlying147 rfl (by kernel_rfl)) rfl ⟨?_,au (rH gV.o Bh.o 0 0 0 ⟨#[]⟩ ⟨#[]⟩) 1⟩;rw[HF.o.1,HF.o.2.1,HF.o.2.2];rfl
  | true =>
   have hE0:E=0:=by simpa using hz
   have HF:Hd ((dZ s.data.toList).2.2=⟨x1,x2,x3,x4,x5⟩/\(dZ s.data.toList).2.1=0/\(dZ s.data.toList).1=0):=by
    have h:=HE.o;have h1:(dZ s.data.toList).1=0:=by rw[<-h.1];exact hE0
    exact⟨h.2.1 hE0,aad _ h1,h1⟩
   subst hE0;go_wp2;refine bodyPost_ret (oW (p:=2) (u:=3) (r:=4) rfl _ _ A _ #[.int .i64 x1,.int .i64 x2,.int .i64 x3,.string ⟨x4.toArray⟩,.string ⟨x5.toArray⟩] (0,0) _ rfl ((Lib.alloc_old _ _ _ (by simpa [World.setCell] using hlt0)).trans (Je rW.o x1 x2 x3 ⟨x4.toArray⟩ ⟨x5.toArray⟩)) underlying147 rfl (by kernel_rfl)) rfl ⟨?_,dn (rH HG.o Bh.o x1 x2 x3 ⟨x4.toArray⟩ ⟨x5.toArray⟩) _⟩;rw[HF.o.1,HF.o.2.1,HF.o.2.2];rfl
end Go.Proofs.YtnnbgjaphfhibaaGreatDoor
