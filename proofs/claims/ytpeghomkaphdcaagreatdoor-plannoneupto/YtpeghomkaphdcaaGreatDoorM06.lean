import Derived.Test.YtpeghomkaphdcaaGreatDoorM05
import Derived.OwnWalk
import Derived.Test.YtpeghomkaphdcaaGreatDoorM02
namespace Go.Proofs.YtpeghomkaphdcaaGreatDoor
open Go.RowKit
set_option linter.unusedVariables false
def tailP (l:List UInt8) (i:Nat):Int × Nat × List UInt8 × List UInt8 :=
 if (optP 45 true l i).1=0 then
  (if (optP 43 false l (optP 45 true l i).2.1).1=0 then (0,(optP 43 false l (optP 45 true l i).2.1).2.1,(optP 45 true l i).2.2,(optP 43 false l (optP 45 true l i).2.1).2.2)
  else ((optP 43 false l (optP 45 true l i).2.1).1,(optP 43 false l (optP 45 true l i).2.1).2.1,[],[]))
 else ((optP 45 true l i).1,(optP 45 true l i).2.1,[],[])
theorem opt_yes {c:UInt8} {st:Bool} {l:List UInt8} {i:Nat} (h:l[i]?=some c):optP c st l i=((rdParts st l (i+1)).1,(rdParts st l (i+1)).2,partsR st l (i+1)):=by
 unfold optP partsR;rw [if_pos h]
 by_cases h0:(rdParts st l (i+1)).1=0
 ·rw [if_pos h0,if_pos h0,h0]
 ·rw [if_neg h0,if_neg h0]
theorem opt_no {c:UInt8} {st:Bool} {l:List UInt8} {i:Nat} (h:¬ l[i]?=some c):optP c st l i=(0,i,[]):=by unfold optP;rw [if_neg h]
theorem rest_le {st:Bool} {l:List UInt8} {i:Nat} (hi:i<=l.length) (h:(rdParts st l i).1=0):(rdParts st l i).2<=l.length:=(parts_take st l _ i rfl hi h).2.1
theorem opt_le {c:UInt8} {st:Bool} {l:List UInt8} {i:Nat} (hi:i<=l.length) (h:(optP c st l i).1=0):(optP c st l i).2.1<=l.length:=by
 by_cases hc:l[i]?=some c
 ·rw [opt_yes hc] at h ⊢
  exact rest_le (by have:=(List.getElem?_eq_some_iff.1 hc).1;omega) h
 ·rw [opt_no hc];exact hi
set_option maxRecDepth 100000 in
set_option maxHeartbeats 3200000 in
theorem tail_any (b:Nat) (s:ByteArray) (i:Nat) (w:World) (hi:i<=s.size) (h:RS b s i w) (hs:s.size<=281474976710656) :
  Calls Tryz.prog 127 #[.pointer (some ⟨b,0,none⟩)] w fun e w'=>e=.returned (.tuple #[.string ⟨(tailP s.data.toList i).2.2.1.toArray⟩,.string ⟨(tailP s.data.toList i).2.2.2.toArray⟩,.int .i64 (tailP s.data.toList i).1])/\RS b s (tailP s.data.toList i).2.1 w'/\w.grownBy w' (some b):=by
 have HLL:Hid (s.data.toList.length=s.size):=by show s.data.toList.length=s.size;simp
 have TY:Hid (∀(c:UInt8) i w,s.data.toList[i]?=some c->RS b s i w->Calls Tryz.prog 146 #[.pointer (some ⟨b,0,none⟩),.string ⟨#[c]⟩] w fun e w'=>e=.returned (.bool true)/\RS b s (i+1) w'/\w.grownBy w' (some b)):=fun c i w hc h=>take_yes b s i c w hc h (by omega)
 have TN:Hid (∀(c:UInt8) i w,i<=s.size->¬ s.data.toList[i]?=some c->RS b s i w->Calls Tryz.prog 146 #[.pointer (some ⟨b,0,none⟩),.string ⟨#[c]⟩] w fun e w'=>e=.returned (.bool false)/\RS b s i w'/\w.grownBy w' (some b)):=fun c i w hi hc h=>take_no b s i c w hi hc h (by omega)
 have PP:Hid (∀i w,i<=s.size->RS b s i w->Calls Tryz.prog 148 #[.pointer (some ⟨b,0,none⟩),.int .i64 0] w fun e w'=>e=.returned (.tuple #[.string ⟨(partsR true s.data.toList i).toArray⟩,.int .i64 (rdParts true s.data.toList i).1])/\RS b s (rdParts true s.data.toList i).2 w'/\w.grownBy w' (some b)):=fun i w hi h=>partsP b s i w hi h (by omega)
 have PB:Hid (∀i w,i<=s.size->RS b s i w->Calls Tryz.prog 148 #[.pointer (some ⟨b,0,none⟩),.int .i64 1] w fun e w'=>e=.returned (.tuple #[.string ⟨(partsR false s.data.toList i).toArray⟩,.int .i64 (rdParts false s.data.toList i).1])/\RS b s (rdParts false s.data.toList i).2 w'/\w.grownBy w' (some b)):=fun i w hi h=>partsB b s i w hi h (by omega)
 have HI:Hid (RS b s i w):=h
 have HIi:Hid (i<=s.size):=hi
 obtain ⟨E,J,P,B,hT⟩:∃E J P B,tailP s.data.toList i=(E,J,P,B):=⟨_,_,_,_,rfl⟩
 rw [hT]
 have HT:Hid (tailP s.data.toList i=(E,J,P,B)):=hT
 clear hT h hi hs
 cases hc1:decide (s.data.toList[i]?=some 45) with
 | false =>
  have hc':=of_decide_eq_false hc1
  have HO1:Hid (optP 45 true s.data.toList (i)=(0,i,[])):=opt_no hc'
  have CT:Hid (Calls Tryz.prog 146 #[.pointer (some ⟨b,0,none⟩),.string ⟨#[45]⟩] w fun e w'=>e=.returned (.bool false)/\RS b s (i) w'/\w.grownBy w' (some b)):=TN.out 45 (i) w HIi.out hc' HI.out
  have HJ:Hid (i<=s.size):=HIi.out
  clear hc1 hc'
  go_enter Tryz.func127,Tryz.ntmps127
  go_wp2_with (first | (go_at_call 146;refine CT.out.mono ?_))
  rintro e u1 ⟨rfl,hr,hg⟩
  have HR1:Hid (RS b s i u1):=hr
  have HG1:Hid (w.grownBy u1 (some b)):=hg
  clear hr hg
  cases hc2:decide (s.data.toList[i]?=some 43) with
  | false =>
   have hc':=of_decide_eq_false hc2
   have HO2:Hid (optP 43 false s.data.toList (i)=(0,i,[])):=opt_no hc'
   have CT:Hid (Calls Tryz.prog 146 #[.pointer (some ⟨b,0,none⟩),.string ⟨#[43]⟩] u1 fun e w'=>e=.returned (.bool false)/\RS b s (i) w'/\u1.grownBy w' (some b)):=TN.out 43 (i) u1 HJ.out hc' HR1.out
   clear hc2 hc'
   go_wp2_with (first | (go_at_call 146;refine CT.out.mono ?_))
   rintro e v1 ⟨rfl,hr,hg⟩
   have HF:Hid (RS b s (i) v1/\w.grownBy v1 (some b)):=⟨hr,gb_trans HG1.out hg⟩
   clear hr hg
   have HV:Hid (E=0/\J=i/\P=[]/\B=[]):=by
    have e:=HT.out
    unfold tailP at e
    rw [HO1.out] at e
    simp only [if_true] at e
    rw [HO2.out] at e
    simp only [if_true] at e
    exact ⟨(congrArg Prod.fst e).symm,(congrArg (·.2.1) e).symm,(congrArg (·.2.2.1) e).symm,(congrArg (·.2.2.2) e).symm⟩
   go_wp2
   refine bodyPost_ret (results_tmp3 rfl _ _ _) rfl ⟨?_,by rw [HV.out.2.1];exact HF.out.1,HF.out.2⟩
   rw [HV.out.1,HV.out.2.2.1,HV.out.2.2.2];rfl
  | true =>
   have hc':=of_decide_eq_true hc2
   have hO2:optP 43 false s.data.toList (i)=((rdParts false s.data.toList (i+1)).1,(rdParts false s.data.toList (i+1)).2,partsR false s.data.toList (i+1)):=opt_yes hc'
   have CT:Hid (Calls Tryz.prog 146 #[.pointer (some ⟨b,0,none⟩),.string ⟨#[43]⟩] u1 fun e w'=>e=.returned (.bool true)/\RS b s (i+1) w'/\u1.grownBy w' (some b)):=TY.out 43 (i) u1 hc' HR1.out
   have HJ2:Hid (i+1<=s.size):=by have:=(List.getElem?_eq_some_iff.1 hc').1;rw [HLL.out] at this;exact this
   have CB:Hid (∀w,RS b s (i+1) w->Calls Tryz.prog 148 #[.pointer (some ⟨b,0,none⟩),.int .i64 1] w fun e w'=>e=.returned (.tuple #[.string ⟨(partsR false s.data.toList (i+1)).toArray⟩,.int .i64 (rdParts false s.data.toList (i+1)).1])/\RS b s (rdParts false s.data.toList (i+1)).2 w'/\w.grownBy w' (some b)):=fun w h=>PB.out (i+1) w HJ2.out h
   obtain ⟨E2,J2,hE2⟩:∃E J,rdParts false s.data.toList (i+1)=(E,J):=⟨_,_,rfl⟩
   obtain ⟨P2,hP2⟩:∃P,partsR false s.data.toList (i+1)=P:=⟨_,rfl⟩
   have hPe:¬ E2=0->P2=[]:=fun h=>by rw [<-hP2];unfold partsR;rw [hE2,if_neg h]
   rw [hE2,hP2] at CB hO2
   simp only at CB hO2
   have HO2:Hid (optP 43 false s.data.toList (i)=(E2,J2,P2)):=hO2
   have HPe:Hid (¬ E2=0->P2=[]):=hPe
   clear hc2 hc' hE2 hP2 hO2 hPe
   go_wp2_with (first | (go_at_call 146;refine CT.out.mono ?_))
   rintro e v1 ⟨rfl,hr,hg⟩
   have HRv:Hid (RS b s (i+1) v1):=hr
   have HGv:Hid (w.grownBy v1 (some b)):=gb_trans HG1.out hg
   clear hr hg
   have CBv:Hid (Calls Tryz.prog 148 #[.pointer (some ⟨b,0,none⟩),.int .i64 1] v1 fun e w'=>e=.returned (.tuple #[.string ⟨P2.toArray⟩,.int .i64 E2])/\RS b s J2 w'/\v1.grownBy w' (some b)):=CB.out v1 HRv.out
   go_wp2_with (first | (go_at_call 148;refine CBv.out.mono ?_))
   rintro e v2 ⟨rfl,hr,hg⟩
   have HF:Hid (RS b s J2 v2/\w.grownBy v2 (some b)):=⟨hr,gb_trans HGv.out hg⟩
   clear hr hg
   cases hz2:(E2 == 0) with
   | false =>
    have h0:¬ E2=0:=by simpa using hz2
    have HV:Hid (E=E2/\J=J2/\P=[]/\B=[]):=by
     have e:=HT.out
     unfold tailP at e
     rw [HO1.out] at e
     simp only [if_true] at e
     rw [HO2.out] at e
     simp only [if_neg h0] at e
     exact ⟨(congrArg Prod.fst e).symm,(congrArg (·.2.1) e).symm,(congrArg (·.2.2.1) e).symm,(congrArg (·.2.2.2) e).symm⟩
    clear h0
    go_wp2
    refine bodyPost_ret (results_tmp3 rfl _ _ _) rfl ⟨?_,by rw [HV.out.2.1];exact HF.out.1,HF.out.2⟩
    rw [HV.out.1,HV.out.2.2.1,HV.out.2.2.2];rfl
   | true =>
    have h0:E2=0:=by simpa using hz2
    subst h0
    have HV:Hid (E=0/\J=J2/\P=[]/\B=P2):=by
     have e:=HT.out
     unfold tailP at e
     rw [HO1.out] at e
     simp only [if_true] at e
     rw [HO2.out] at e
     simp only [if_true] at e
     exact ⟨(congrArg Prod.fst e).symm,(congrArg (·.2.1) e).symm,(congrArg (·.2.2.1) e).symm,(congrArg (·.2.2.2) e).symm⟩
    go_wp2
    refine bodyPost_ret (results_tmp3 rfl _ _ _) rfl ⟨?_,by rw [HV.out.2.1];exact HF.out.1,HF.out.2⟩
    rw [HV.out.1,HV.out.2.2.1,HV.out.2.2.2];rfl
 | true =>
  have hc':=of_decide_eq_true hc1
  have hO1:optP 45 true s.data.toList (i)=((rdParts true s.data.toList (i+1)).1,(rdParts true s.data.toList (i+1)).2,partsR true s.data.toList (i+1)):=opt_yes hc'
  have CT:Hid (Calls Tryz.prog 146 #[.pointer (some ⟨b,0,none⟩),.string ⟨#[45]⟩] w fun e w'=>e=.returned (.bool true)/\RS b s (i+1) w'/\w.grownBy w' (some b)):=TY.out 45 (i) w hc' HI.out
  have HJ1:Hid (i+1<=s.size):=by have:=(List.getElem?_eq_some_iff.1 hc').1;rw [HLL.out] at this;exact this
  have CA:Hid (∀w,RS b s (i+1) w->Calls Tryz.prog 148 #[.pointer (some ⟨b,0,none⟩),.int .i64 0] w fun e w'=>e=.returned (.tuple #[.string ⟨(partsR true s.data.toList (i+1)).toArray⟩,.int .i64 (rdParts true s.data.toList (i+1)).1])/\RS b s (rdParts true s.data.toList (i+1)).2 w'/\w.grownBy w' (some b)):=fun w h=>PP.out (i+1) w HJ1.out h
  have HRL:Hid ((rdParts true s.data.toList (i+1)).1=0->(rdParts true s.data.toList (i+1)).2<=s.size):=fun h=>by have:=rest_le (st:=true) (l:=s.data.toList) (i:=i+1) (by rw [HLL.out];exact HJ1.out) h;rw [HLL.out] at this;exact this
  obtain ⟨E1,J1,hE1⟩:∃E J,rdParts true s.data.toList (i+1)=(E,J):=⟨_,_,rfl⟩
  obtain ⟨P1,hP1⟩:∃P,partsR true s.data.toList (i+1)=P:=⟨_,rfl⟩
  rw [hE1,hP1] at CA hO1
  rw [hE1] at HRL
  simp only at CA hO1 HRL
  have HO1:Hid (optP 45 true s.data.toList (i)=(E1,J1,P1)):=hO1
  clear hc1 hc' hE1 hP1 hO1
  go_enter Tryz.func127,Tryz.ntmps127
  go_wp2_with (first | (go_at_call 146;refine CT.out.mono ?_))
  rintro e u1 ⟨rfl,hr,hg⟩
  have HRu:Hid (RS b s (i+1) u1):=hr
  have HGu:Hid (w.grownBy u1 (some b)):=hg
  clear hr hg
  have CAu:Hid (Calls Tryz.prog 148 #[.pointer (some ⟨b,0,none⟩),.int .i64 0] u1 fun e w'=>e=.returned (.tuple #[.string ⟨P1.toArray⟩,.int .i64 E1])/\RS b s J1 w'/\u1.grownBy w' (some b)):=CA.out u1 HRu.out
  go_wp2_with (first | (go_at_call 148;refine CAu.out.mono ?_))
  rintro e u2 ⟨rfl,hr,hg⟩
  have HR1:Hid (RS b s J1 u2):=hr
  have HG1:Hid (w.grownBy u2 (some b)):=gb_trans HGu.out hg
  clear hr hg
  cases hz1:(E1 == 0) with
  | false =>
   have h0:¬ E1=0:=by simpa using hz1
   have HV:Hid (E=E1/\J=J1/\P=[]/\B=[]):=by
    have e:=HT.out
    unfold tailP at e
    rw [HO1.out] at e
    simp only [if_neg h0] at e
    exact ⟨(congrArg Prod.fst e).symm,(congrArg (·.2.1) e).symm,(congrArg (·.2.2.1) e).symm,(congrArg (·.2.2.2) e).symm⟩
   clear h0
   go_wp2
   refine bodyPost_ret (results_tmp3 rfl _ _ _) rfl ⟨?_,by rw [HV.out.2.1];exact HR1.out,HG1.out⟩
   rw [HV.out.1,HV.out.2.2.1,HV.out.2.2.2];rfl
  | true =>
   have h0:E1=0:=by simpa using hz1
   subst h0
   have HJ:Hid (J1<=s.size):=HRL.out rfl
   clear hz1
   cases hc2:decide (s.data.toList[J1]?=some 43) with
   | false =>
    have hc':=of_decide_eq_false hc2
    have HO2:Hid (optP 43 false s.data.toList (J1)=(0,J1,[])):=opt_no hc'
    have CT:Hid (Calls Tryz.prog 146 #[.pointer (some ⟨b,0,none⟩),.string ⟨#[43]⟩] u2 fun e w'=>e=.returned (.bool false)/\RS b s (J1) w'/\u2.grownBy w' (some b)):=TN.out 43 (J1) u2 HJ.out hc' HR1.out
    clear hc2 hc'
    go_wp2_with (first | (go_at_call 146;refine CT.out.mono ?_))
    rintro e v1 ⟨rfl,hr,hg⟩
    have HF:Hid (RS b s (J1) v1/\w.grownBy v1 (some b)):=⟨hr,gb_trans HG1.out hg⟩
    clear hr hg
    have HV:Hid (E=0/\J=J1/\P=P1/\B=[]):=by
     have e:=HT.out
     unfold tailP at e
     rw [HO1.out] at e
     simp only [if_true] at e
     rw [HO2.out] at e
     simp only [if_true] at e
     exact ⟨(congrArg Prod.fst e).symm,(congrArg (·.2.1) e).symm,(congrArg (·.2.2.1) e).symm,(congrArg (·.2.2.2) e).symm⟩
    go_wp2
    refine bodyPost_ret (results_tmp3 rfl _ _ _) rfl ⟨?_,by rw [HV.out.2.1];exact HF.out.1,HF.out.2⟩
    rw [HV.out.1,HV.out.2.2.1,HV.out.2.2.2];rfl
   | true =>
    have hc':=of_decide_eq_true hc2
    have hO2:optP 43 false s.data.toList (J1)=((rdParts false s.data.toList (J1+1)).1,(rdParts false s.data.toList (J1+1)).2,partsR false s.data.toList (J1+1)):=opt_yes hc'
    have CT:Hid (Calls Tryz.prog 146 #[.pointer (some ⟨b,0,none⟩),.string ⟨#[43]⟩] u2 fun e w'=>e=.returned (.bool true)/\RS b s (J1+1) w'/\u2.grownBy w' (some b)):=TY.out 43 (J1) u2 hc' HR1.out
    have HJ2:Hid (J1+1<=s.size):=by have:=(List.getElem?_eq_some_iff.1 hc').1;rw [HLL.out] at this;exact this
    have CB:Hid (∀w,RS b s (J1+1) w->Calls Tryz.prog 148 #[.pointer (some ⟨b,0,none⟩),.int .i64 1] w fun e w'=>e=.returned (.tuple #[.string ⟨(partsR false s.data.toList (J1+1)).toArray⟩,.int .i64 (rdParts false s.data.toList (J1+1)).1])/\RS b s (rdParts false s.data.toList (J1+1)).2 w'/\w.grownBy w' (some b)):=fun w h=>PB.out (J1+1) w HJ2.out h
    obtain ⟨E2,J2,hE2⟩:∃E J,rdParts false s.data.toList (J1+1)=(E,J):=⟨_,_,rfl⟩
    obtain ⟨P2,hP2⟩:∃P,partsR false s.data.toList (J1+1)=P:=⟨_,rfl⟩
    have hPe:¬ E2=0->P2=[]:=fun h=>by rw [<-hP2];unfold partsR;rw [hE2,if_neg h]
    rw [hE2,hP2] at CB hO2
    simp only at CB hO2
    have HO2:Hid (optP 43 false s.data.toList (J1)=(E2,J2,P2)):=hO2
    have HPe:Hid (¬ E2=0->P2=[]):=hPe
    clear hc2 hc' hE2 hP2 hO2 hPe
    go_wp2_with (first | (go_at_call 146;refine CT.out.mono ?_))
    rintro e v1 ⟨rfl,hr,hg⟩
    have HRv:Hid (RS b s (J1+1) v1):=hr
    have HGv:Hid (w.grownBy v1 (some b)):=gb_trans HG1.out hg
    clear hr hg
    have CBv:Hid (Calls Tryz.prog 148 #[.pointer (some ⟨b,0,none⟩),.int .i64 1] v1 fun e w'=>e=.returned (.tuple #[.string ⟨P2.toArray⟩,.int .i64 E2])/\RS b s J2 w'/\v1.grownBy w' (some b)):=CB.out v1 HRv.out
    go_wp2_with (first | (go_at_call 148;refine CBv.out.mono ?_))
    rintro e v2 ⟨rfl,hr,hg⟩
    have HF:Hid (RS b s J2 v2/\w.grownBy v2 (some b)):=⟨hr,gb_trans HGv.out hg⟩
    clear hr hg
    cases hz2:(E2 == 0) with
    | false =>
     have h0:¬ E2=0:=by simpa using hz2
     have HV:Hid (E=E2/\J=J2/\P=[]/\B=[]):=by
      have e:=HT.out
      unfold tailP at e
      rw [HO1.out] at e
      simp only [if_true] at e
      rw [HO2.out] at e
      simp only [if_neg h0] at e
      exact ⟨(congrArg Prod.fst e).symm,(congrArg (·.2.1) e).symm,(congrArg (·.2.2.1) e).symm,(congrArg (·.2.2.2) e).symm⟩
     clear h0
     go_wp2
     refine bodyPost_ret (results_tmp3 rfl _ _ _) rfl ⟨?_,by rw [HV.out.2.1];exact HF.out.1,HF.out.2⟩
     rw [HV.out.1,HV.out.2.2.1,HV.out.2.2.2];rfl
    | true =>
     have h0:E2=0:=by simpa using hz2
     subst h0
     have HV:Hid (E=0/\J=J2/\P=P1/\B=P2):=by
      have e:=HT.out
      unfold tailP at e
      rw [HO1.out] at e
      simp only [if_true] at e
      rw [HO2.out] at e
      simp only [if_true] at e
      exact ⟨(congrArg Prod.fst e).symm,(congrArg (·.2.1) e).symm,(congrArg (·.2.2.1) e).symm,(congrArg (·.2.2.2) e).symm⟩
     go_wp2
     refine bodyPost_ret (results_tmp3 rfl _ _ _) rfl ⟨?_,by rw [HV.out.2.1];exact HF.out.1,HF.out.2⟩
     rw [HV.out.1,HV.out.2.2.1,HV.out.2.2.2];rfl
open Go.RowKit
set_option linter.unusedVariables false
def VX (v:Nat) (y1 y2 y3:Int) (x4 x5:ByteArray) (w:World):Prop:=w.heap[v]?=some (.cells #[.int .i64 y1,.int .i64 y2,.int .i64 y3,.string x4,.string x5] 105 (0,0))
theorem VX.cells {v:Nat} {y1 y2 y3:Int} {x4 x5:ByteArray} {w:World} (h:VX v y1 y2 y3 x4 x5 w):w.cell? ⟨v,0,none⟩=some (.int .i64 y1)/\w.cell? ⟨v,1,none⟩=some (.int .i64 y2)/\w.cell? ⟨v,2,none⟩=some (.int .i64 y3)/\w.cell? ⟨v,3,none⟩=some (.string x4)/\w.cell? ⟨v,4,none⟩=some (.string x5) :=
 ⟨by rw [Lib.cell_of_heap h];rfl,by rw [Lib.cell_of_heap h];rfl,by rw [Lib.cell_of_heap h];rfl,by rw [Lib.cell_of_heap h];rfl,by rw [Lib.cell_of_heap h];rfl⟩
theorem VX.f {v:Nat} {y1 y2 y3:Int} {x4 x5:ByteArray} {w:World} (h:VX v y1 y2 y3 x4 x5 w) (o:Nat):w.frozen? ⟨v,o,none⟩=false:=Lib.frozen_of_heap h o
theorem VX.grow {b v:Nat} {y1 y2 y3:Int} {x4 x5:ByteArray} {w w':World} (h:VX v y1 y2 y3 x4 x5 w) (hg:w.grownBy w' (some b)) (hn:v ≠ b):VX v y1 y2 y3 x4 x5 w':=by
 unfold VX at h ⊢
 rw [hg.block v ((Array.getElem?_eq_some_iff.1 h).1) (by simpa using hn)];exact h
theorem VX.set3 {v:Nat} {y1 y2 y3:Int} {x4 x5:ByteArray} {w:World} (h:VX v y1 y2 y3 x4 x5 w) (z:ByteArray):VX v y1 y2 y3 z x5 (w.setCell ⟨v,3,none⟩ (.string z)):=by
 unfold VX at h ⊢;simp [World.setCell,Array.getElem?_modify,h]
theorem VX.set4 {v:Nat} {y1 y2 y3:Int} {x4 x5:ByteArray} {w:World} (h:VX v y1 y2 y3 x4 x5 w) (z:ByteArray):VX v y1 y2 y3 x4 z (w.setCell ⟨v,4,none⟩ (.string z)):=by
 unfold VX at h ⊢;simp [World.setCell,Array.getElem?_modify,h]
theorem VX.other {v u:Nat} {y1 y2 y3:Int} {x4 x5:ByteArray} {w:World} (h:VX v y1 y2 y3 x4 x5 w) (hn:v ≠ u) (o:Nat) (x:Value):VX v y1 y2 y3 x4 x5 (w.setCell ⟨u,o,none⟩ x):=by
 unfold VX at h ⊢;rw [<-h];exact heap_setCell_other w _ v x hn
def put5 (w:World) (A:Nat) (y1 y2 y3:Int) (x4 x5:ByteArray):World:=((((w.setCell ⟨A,0,none⟩ (.int .i64 y1)).setCell ⟨A,1,none⟩ (.int .i64 y2)).setCell ⟨A,2,none⟩ (.int .i64 y3)).setCell ⟨A,3,none⟩ (.string x4)).setCell ⟨A,4,none⟩ (.string x5)
theorem put5_row {w:World} {A:Nat} {z1 z2 z3:Int} {z4 z5:ByteArray} (h:VX A z1 z2 z3 z4 z5 w) (y1 y2 y3:Int) (x4 x5:ByteArray):VX A y1 y2 y3 x4 x5 (put5 w A y1 y2 y3 x4 x5):=by
 unfold VX at h ⊢;unfold put5;simp [World.setCell,Array.getElem?_modify,h]
theorem gb_new {b A:Nat} {w W:World} (h:w.grownBy W (some b)) (hA:w.heap.size<=A) (o:Nat) (x:Value):w.grownBy (W.setCell ⟨A,o,none⟩ x) (some b) :=
 ⟨h.os,h.tape,h.output,by simpa [World.setCell] using h.size,fun k hk hn=>by rw [<-h.block k hk hn];exact heap_setCell_other W _ k x (by simp;omega)⟩
theorem put5_gb {b A:Nat} {w W:World} (h:w.grownBy W (some b)) (hA:w.heap.size<=A) (y1 y2 y3:Int) (x4 x5:ByteArray):w.grownBy (put5 W A y1 y2 y3 x4 x5) (some b):=gb_new (gb_new (gb_new (gb_new (gb_new h hA _ _) hA _ _) hA _ _) hA _ _) hA _ _
theorem res_row_tmp {P:Program} {fn:Func} {p u:Tmp} {ty:TypeId} (h:fn.results=#[.cell p ty,.tmp u]) (tmps:Array Value) (w:World) (g:Nat) (t:TypeId) (cs:Array Value) (fr:Nat × Nat) (d:TypeDesc)
  (hp:tmps.getD p undef=.pointer (some ⟨g,0,none⟩)) (hg:w.heap[g]?=some (.cells cs t fr)) (hu:P.underlying ty=some d) (hd:(match d with | .struct _ | .array _ _=>true | _=>false)=true) (hi:(P.info? ty).map (·.size)=some cs.size) :
  (results fn tmps).run P w=.ok (.tuple #[.agg cs,tmps.getD u undef]) w:=by
 rw [results_cell_tmp h,hp]
 simp [asAddr,run_loadVar_row w g t ty cs fr d hg hu hd hi,Result.andThen]
set_option linter.unusedVariables false
theorem res_row_tmp2 {P:Program} {fn:Func} {p u r:Tmp} {ty:TypeId} (h:fn.results=#[.cell p ty,.tmp u,.tmp r]) (tmps:Array Value) (w:World) (g:Nat) (t:TypeId) (cs:Array Value) (fr:Nat × Nat) (d:TypeDesc)
  (hp:tmps.getD p undef=.pointer (some ⟨g,0,none⟩)) (hg:w.heap[g]?=some (.cells cs t fr)) (hu:P.underlying ty=some d) (hd:(match d with | .struct _ | .array _ _=>true | _=>false)=true) (hi:(P.info? ty).map (·.size)=some cs.size) :
  (results fn tmps).run P w=.ok (.tuple #[.agg cs,tmps.getD u undef,tmps.getD r undef]) w:=by
 have hp':tmps[p]?.getD undef=.pointer (some ⟨g,0,none⟩):=by simpa using hp
 simp [results,h,Result.andThen,hp',asAddr,run_loadVar_row w g t ty cs fr d hg hu hd hi]
theorem gb_new0 {A:Nat} {w W:World} (h:w.grownBy W none) (hA:w.heap.size<=A) (o:Nat) (x:Value):w.grownBy (W.setCell ⟨A,o,none⟩ x) none :=
 ⟨h.os,h.tape,h.output,by simpa [World.setCell] using h.size,fun k hk hn=>by rw [<-h.block k hk hn];exact heap_setCell_other W _ k x (by simp;omega)⟩
theorem put5_gb0 {A:Nat} {w W:World} (h:w.grownBy W none) (hA:w.heap.size<=A) (y1 y2 y3:Int) (x4 x5:ByteArray):w.grownBy (put5 W A y1 y2 y3 x4 x5) none:=gb_new0 (gb_new0 (gb_new0 (gb_new0 (gb_new0 h hA _ _) hA _ _) hA _ _) hA _ _) hA _ _
open Go.RowKit
set_option linter.unusedVariables false
def VerPost (b:Nat) (s:ByteArray) (w:World) (e:Ending) (w':World):Prop :=
 ∃(x1 x2 x3:Int) (x4 x5:List UInt8) (E:Int) (j:Nat),e=.returned (.tuple #[.agg #[.int .i64 x1,.int .i64 x2,.int .i64 x3,.string ⟨x4.toArray⟩,.string ⟨x5.toArray⟩],.int .i64 E]) ∧
  RS b s j w'/\w.grownBy w' (some b)/\E=(rdVer s.data.toList).1/\(E=0->(rdVer s.data.toList).2.2=⟨x1,x2,x3,x4,x5⟩)/\(E ≠ 0->(rdVer s.data.toList).2.1=j)
theorem RSalloc {b:Nat} {s:ByteArray} {i:Nat} {w:World} (h:RS b s i w) (o1 o2:Obj):RS b s i ((w.alloc o1).alloc o2):=h.grow (gb_alloc (gb_alloc (gb_refl w none) o1) o2)
theorem row2 (w:World) (o1 o2:Obj):((w.alloc o1).alloc o2).heap[w.heap.size+1]?=some o2:=by
 have:=heap_alloc_new (w.alloc o1) o2
 simpa using this
theorem put5_rs {b A:Nat} {s:ByteArray} {j:Nat} {w:World} (h:RS b s j w) (hn:b ≠ A) (y1 y2 y3:Int) (x4 x5:ByteArray):RS b s j (put5 w A y1 y2 y3 x4 x5):=((((h.other hn _ _).other hn _ _).other hn _ _).other hn _ _).other hn _ _
theorem ver_tail (l:List UInt8):rdVer l=if (rdNums l).1=0 then (if (tailP l (rdNums l).2.1).1=0 then (if (tailP l (rdNums l).2.1).2.1 < l.length then (2,(tailP l (rdNums l).2.1).2.1,zeroV) else (0,0,⟨(rdNums l).2.2.1,(rdNums l).2.2.2.1,(rdNums l).2.2.2.2,(tailP l (rdNums l).2.1).2.2.1,(tailP l (rdNums l).2.1).2.2.2⟩)) else ((tailP l (rdNums l).2.1).1,(tailP l (rdNums l).2.1).2.1,zeroV)) else ((rdNums l).1,(rdNums l).2.1,zeroV):=by
 unfold rdVer tailP
 by_cases h1:(rdNums l).1=0
 ·rw [if_pos h1,if_pos h1]
  by_cases h2:(optP 45 true l (rdNums l).2.1).1=0
  ·simp only [if_pos h2]
   by_cases h3:(optP 43 false l (optP 45 true l (rdNums l).2.1).2.1).1=0
   ·simp only [if_pos h3,if_true]
   ·simp only [if_neg h3]
  ·simp only [if_neg h2]
 ·rw [if_neg h1,if_neg h1]
set_option maxRecDepth 100000 in
set_option maxHeartbeats 3200000 in
theorem version_any (b:Nat) (s:ByteArray) (w:World) (h:RS b s 0 w) (hs:s.size<=100) :
  Calls Tryz.prog 99 #[.pointer (some ⟨b,0,none⟩)] w (VerPost b s w):=by
 have HB:Hid (b < w.heap.size):=by obtain ⟨t,h⟩:=h;exact (Array.getElem?_eq_some_iff.1 h).1
 have HI:Hid (RS b s 0 w):=h
 have CN:Hid (∀v w,RS b s 0 w->VB v 0 0 0 w->b ≠ v->Calls Tryz.prog 126 #[.pointer (some ⟨b,0,none⟩),.pointer (some ⟨v,0,none⟩)] w fun e w'=>e=.returned (.int .i64 (rdNums s.data.toList).1)/\RS b s (rdNums s.data.toList).2.1 w'/\(∃y1 y2 y3,VB v y1 y2 y3 w'/\((rdNums s.data.toList).1=0->(y1,y2,y3)=(rdNums s.data.toList).2.2))/\G2 b v w w'):=fun v w h1 h2 h3=>numbers_any b v s w h1 h2 h3 (by omega)
 have CTl:Hid (∀i w,i<=s.size->RS b s i w->Calls Tryz.prog 127 #[.pointer (some ⟨b,0,none⟩)] w fun e w'=>e=.returned (.tuple #[.string ⟨(tailP s.data.toList i).2.2.1.toArray⟩,.string ⟨(tailP s.data.toList i).2.2.2.toArray⟩,.int .i64 (tailP s.data.toList i).1])/\RS b s (tailP s.data.toList i).2.1 w'/\w.grownBy w' (some b)):=fun i w hi h=>tail_any b s i w hi h (by omega)
 have HLL:Hid (s.data.toList.length=s.size):=by show s.data.toList.length=s.size;simp
 clear h hs
 have hver:=ver_tail s.data.toList
 obtain ⟨E0,J0,X1,X2,X3,hN⟩:∃E J A B C,rdNums s.data.toList=(E,J,A,B,C):=⟨_,_,_,_,_,rfl⟩
 obtain ⟨E1,J1,P1,B1,hT⟩:∃E J P B,tailP s.data.toList J0=(E,J,P,B):=⟨_,_,_,_,rfl⟩
 rw [hN] at CN hver
 simp only at CN hver
 rw [hT] at hver
 simp only at hver
 have HJ0:Hid (E0=0->J0<=s.size):=fun h0=>by
  have:=(nums_take s.data.toList (by rw [hN];exact h0)).1
  rw [hN,HLL.out] at this;exact this
 have HJ1:Hid (J0<=s.size->E1=0->J1<=s.size):=fun hj h0=>by
  rw [<-HLL.out] at hj ⊢
  unfold tailP at hT
  by_cases h2:(optP 45 true s.data.toList J0).1=0
  ·have l1:=opt_le hj h2
   rw [if_pos h2] at hT
   by_cases h3:(optP 43 false s.data.toList (optP 45 true s.data.toList J0).2.1).1=0
   ·rw [if_pos h3] at hT
    have l2:=opt_le l1 h3
    have e:=congrArg (·.2.1) hT
    simp only at e
    rw [<-e];exact l2
   ·rw [if_neg h3] at hT
    exact absurd ((congrArg Prod.fst hT).trans h0) h3
  ·rw [if_neg h2] at hT
   exact absurd ((congrArg Prod.fst hT).trans h0) h2
 have CT0:Hid (∀w,J0<=s.size->RS b s J0 w->Calls Tryz.prog 127 #[.pointer (some ⟨b,0,none⟩)] w fun e w'=>e=.returned (.tuple #[.string ⟨P1.toArray⟩,.string ⟨B1.toArray⟩,.int .i64 E1])/\RS b s J1 w'/\w.grownBy w' (some b)):=fun w hj h=>by
  have:=CTl.out J0 w hj h
  rw [hT] at this;exact this
 have HV:Hid (rdVer s.data.toList=if E0=0 then (if E1=0 then (if J1 < s.data.toList.length then (2,J1,zeroV) else (0,0,⟨X1,X2,X3,P1,B1⟩)) else (E1,J1,zeroV)) else (E0,J0,zeroV)):=hver
 clear hN hT hver CTl
 go_enter Tryz.func99,Tryz.ntmps99
 go_wp2_with (go_at_call 126;refine (CN.out _ _ (RSalloc HI.out _ _) (row2 w _ _) (by have:=HB.out;omega)).mono ?_)
 rintro e w1 ⟨rfl,hr1,⟨y1,y2,y3,hvb,hy⟩,hg1⟩
 obtain ⟨A,hA⟩:∃A,w.heap.size=A:=⟨_,rfl⟩
 have HXA:Hid (VX A 0 0 0 ⟨#[]⟩ ⟨#[]⟩ w1):=by
  show w1.heap[A]?=_
  rw [<-hA,hg1.block w.heap.size (by simp;omega) (by have:=HB.out;omega) (by omega),Lib.alloc_old _ _ _ (by simp)]
  exact heap_alloc_new w _
 have HG:Hid (w.grownBy w1 (some b)):=by
  refine ⟨hg1.os,hg1.tape,hg1.output,by have:=hg1.size;simp at this;omega,fun k hk hn=>?_⟩
  rw [hg1.block k (by simp;omega) (by simpa using hn) (by omega),Lib.alloc_old _ _ _ (by simp;omega),Lib.alloc_old _ _ _ hk]
 have HR1:Hid (RS b s J0 w1):=hr1
 have HY:Hid (E0=0->(y1,y2,y3)=(X1,X2,X3)):=hy
 have HX:Hid (VX (A+1) y1 y2 y3 ⟨#[]⟩ ⟨#[]⟩ w1):=by rw [<-hA];exact hvb
 have HAb:Hid (b < A):=by rw [<-hA];exact HB.out
 have HWA:Hid (w.heap.size<=A):=Nat.le_of_eq hA
 rw [hA]
 clear hA hr1 hvb hy hg1
 have END:Hid (∀(W:World) (j:Nat) (z1 z2 z3:Int) (x4 x5:List UInt8) (E:Int),RS b s j W->VX A 0 0 0 ⟨#[]⟩ ⟨#[]⟩ W->w.grownBy W (some b)->E=(rdVer s.data.toList).1->(E=0->(rdVer s.data.toList).2.2=⟨z1,z2,z3,x4,x5⟩)->(E ≠ 0->(rdVer s.data.toList).2.1=j) →
   VX A z1 z2 z3 ⟨x4.toArray⟩ ⟨x5.toArray⟩ (put5 W A z1 z2 z3 ⟨x4.toArray⟩ ⟨x5.toArray⟩)/\VerPost b s w (.returned (.tuple #[.agg #[.int .i64 z1,.int .i64 z2,.int .i64 z3,.string ⟨x4.toArray⟩,.string ⟨x5.toArray⟩],.int .i64 E])) (put5 W A z1 z2 z3 ⟨x4.toArray⟩ ⟨x5.toArray⟩)):=by
  intro W j z1 z2 z3 x4 x5 E h1 h2 h3 h4 h5 h6
  exact ⟨put5_row h2 _ _ _ _ _,z1,z2,z3,x4,x5,E,j,rfl,put5_rs h1 (by have:=HAb.out;omega) _ _ _ _ _,put5_gb h3 HWA.out _ _ _ _ _,h4,h5,h6⟩
 cases hz:(E0 == 0) with
 | false =>
  obtain ⟨v0,v1,v2,v3,v4⟩:=HX.out.cells
  obtain ⟨ca0,ca1,ca2,ca3,ca4⟩:=HXA.out.cells
  have ra:=HXA.out.f
  have HE:Hid (E0=(rdVer s.data.toList).1/\(rdVer s.data.toList).2.1=J0/\E0 ≠ 0):=by
   have h0:¬ E0=0:=by simpa using hz
   refine ⟨?_,?_,h0⟩ <;> (rw [HV.out,if_neg h0])
  go_wp2
  obtain ⟨hrow,hpost⟩:=END.out w1 J0 0 0 0 [] [] E0 HR1.out HXA.out HG.out HE.out.1 (fun h=>absurd h HE.out.2.2) (fun _=>HE.out.2.1)
  exact bodyPost_ret (res_row_tmp (p:=2) (u:=3) rfl _ _ A _ _ (0,0) _ rfl hrow Tryz.underlying105 rfl (by kernel_rfl)) rfl hpost
 | true =>
  have hE:E0=0:=by simpa using hz
  subst hE
  clear hz
  have hj0:=HJ0.out rfl
  have HV2:Hid (rdVer s.data.toList=if E1=0 then (if J1 < s.data.toList.length then (2,J1,zeroV) else (0,0,⟨X1,X2,X3,P1,B1⟩)) else (E1,J1,zeroV)):=by
   show rdVer s.data.toList=_
   rw [HV.out,if_pos rfl]
  have HY2:Hid (y1=X1/\y2=X2/\y3=X3):=by
   have hy:=HY.out rfl
   simp only [Prod.mk.injEq] at hy
   exact hy
  clear HV HY
  have CTw:Hid (Calls Tryz.prog 127 #[.pointer (some ⟨b,0,none⟩)] w1 fun e w'=>e=.returned (.tuple #[.string ⟨P1.toArray⟩,.string ⟨B1.toArray⟩,.int .i64 E1])/\RS b s J1 w'/\w1.grownBy w' (some b)):=CT0.out w1 hj0 HR1.out
  have HJs:Hid (E1=0->J1<=s.size):=HJ1.out hj0
  clear hj0
  go_wp2_with (first | (go_at_call 127;refine CTw.out.mono ?_))
  rintro e u1 ⟨rfl,hr,hg⟩
  have HRu:Hid (RS b s J1 u1):=hr
  have HXu:Hid (VX (A+1) y1 y2 y3 ⟨#[]⟩ ⟨#[]⟩ u1):=HX.out.grow hg (by have:=HAb.out;omega)
  have HXa:Hid (VX A 0 0 0 ⟨#[]⟩ ⟨#[]⟩ u1):=HXA.out.grow hg (by have:=HAb.out;omega)
  have HGu:Hid (w.grownBy u1 (some b)):=gb_trans HG.out hg
  clear hr hg
  obtain ⟨v0,v1,v2,v3,v4⟩:=HXu.out.cells
  have rv:=HXu.out.f
  obtain ⟨ca0,ca1,ca2,ca3,ca4⟩:=HXa.out.cells
  have ra:=HXa.out.f
  obtain ⟨U,hU⟩:∃U,(u1.setCell ⟨A+1,3,none⟩ (.string ⟨P1.toArray⟩)).setCell ⟨A+1,4,none⟩ (.string ⟨B1.toArray⟩)=U:=⟨_,rfl⟩
  have HRU:Hid (RS b s J1 U):=by
   show RS b s J1 U
   rw [<-hU];exact (HRu.out.other (by have:=HAb.out;omega) _ _).other (by have:=HAb.out;omega) _ _
  have HXU:Hid (VX (A+1) y1 y2 y3 ⟨P1.toArray⟩ ⟨B1.toArray⟩ U):=by
   show VX _ _ _ _ _ _ U
   rw [<-hU];exact (HXu.out.set3 _).set4 _
  have HAU:Hid (VX A 0 0 0 ⟨#[]⟩ ⟨#[]⟩ U):=by
   show VX _ _ _ _ _ _ U
   rw [<-hU];exact (HXa.out.other (by omega) _ _).other (by omega) _ _
  have HGU:Hid (w.grownBy U (some b)):=by
   show w.grownBy U (some b)
   have:=HWA.out
   rw [<-hU];exact gb_new (gb_new HGu.out (by omega) _ _) (by omega) _ _
  have CE:Hid (Calls Tryz.prog 128 #[.pointer (some ⟨b,0,none⟩)] ((u1.setCell ⟨A+1,3,none⟩ (.string ⟨P1.toArray⟩)).setCell ⟨A+1,4,none⟩ (.string ⟨B1.toArray⟩)) fun e w'=>e=.returned (.bool (decide (J1=s.size)))/\∃n,w'=U.drewN n):=by
   show Calls _ _ _ _ _
   rw [hU];exact ended_any b s J1 U HRU.out
  have HU:Hid ((u1.setCell ⟨A+1,3,none⟩ (.string ⟨P1.toArray⟩)).setCell ⟨A+1,4,none⟩ (.string ⟨B1.toArray⟩)=U):=hU
  clear hU
  cases hz1:(E1 == 0) with
  | false =>
   have HE:Hid (E1=(rdVer s.data.toList).1/\(rdVer s.data.toList).2.1=J1/\E1 ≠ 0):=by
    have h0:¬ E1=0:=by simpa using hz1
    refine ⟨?_,?_,h0⟩ <;> (rw [HV2.out,if_neg h0])
   go_wp2
   obtain ⟨hrow,hpost⟩:=END.out U J1 0 0 0 [] [] E1 HRU.out HAU.out HGU.out HE.out.1 (fun h=>absurd h HE.out.2.2) (fun _=>HE.out.2.1)
   rw [HU.out]
   exact bodyPost_ret (res_row_tmp (p:=2) (u:=3) rfl _ _ A _ _ (0,0) _ rfl hrow Tryz.underlying105 rfl (by kernel_rfl)) rfl hpost
  | true =>
   have h0:E1=0:=by simpa using hz1
   subst h0
   clear hz1
   have hj:=HJs.out rfl
   cases hJ:decide (J1=s.size) with
   | false =>
    rw [hJ] at CE
    have HE:Hid ((2:Int)=(rdVer s.data.toList).1/\(rdVer s.data.toList).2.1=J1):=by
     have h1:J1 < s.data.toList.length:=by rw [HLL.out];have:=of_decide_eq_false hJ;omega
     refine ⟨?_,?_⟩ <;> (rw [HV2.out,if_pos rfl,if_pos h1])
    clear hj hJ
    go_wp2_with (first | (go_at_call 128;refine CE.out.mono ?_))
    rintro e u2 ⟨rfl,n,hn⟩
    have HR2:Hid (RS b s J1 u2):=by show RS b s J1 u2;rw [hn];exact HRU.out.drew n
    have HA2:Hid (VX A 0 0 0 ⟨#[]⟩ ⟨#[]⟩ u2):=by show VX _ _ _ _ _ _ u2;rw [hn];exact HAU.out
    have HG2:Hid (w.grownBy u2 (some b)):=by show w.grownBy u2 (some b);rw [hn];exact gb_drew HGU.out n
    clear hn v0 v1 v2 v3 v4 rv ca0 ca1 ca2 ca3 ca4 ra
    obtain ⟨ca0,ca1,ca2,ca3,ca4⟩:=HA2.out.cells
    have ra:=HA2.out.f
    go_wp2
    obtain ⟨hrow,hpost⟩:=END.out u2 J1 0 0 0 [] [] 2 HR2.out HA2.out HG2.out HE.out.1 (fun h=>absurd h (by decide)) (fun _=>HE.out.2)
    exact bodyPost_ret (res_row_tmp (p:=2) (u:=3) rfl _ _ A _ _ (0,0) _ rfl hrow Tryz.underlying105 rfl (by kernel_rfl)) rfl hpost
   | true =>
    rw [hJ] at CE
    have HE:Hid ((0:Int)=(rdVer s.data.toList).1/\(rdVer s.data.toList).2.2=⟨y1,y2,y3,P1,B1⟩):=by
     have h1:¬ J1 < s.data.toList.length:=by rw [HLL.out];have:=of_decide_eq_true hJ;omega
     obtain ⟨e1,e2,e3⟩:=HY2.out
     refine ⟨?_,?_⟩ <;> (rw [HV2.out,if_pos rfl,if_neg h1])
     rw [e1,e2,e3]
    clear hj hJ
    go_wp2_with (first | (go_at_call 128;refine CE.out.mono ?_))
    rintro e u2 ⟨rfl,n,hn⟩
    have HR2:Hid (RS b s J1 u2):=by show RS b s J1 u2;rw [hn];exact HRU.out.drew n
    have HA2:Hid (VX A 0 0 0 ⟨#[]⟩ ⟨#[]⟩ u2):=by show VX _ _ _ _ _ _ u2;rw [hn];exact HAU.out
    have HX2:Hid (VX (A+1) y1 y2 y3 ⟨P1.toArray⟩ ⟨B1.toArray⟩ u2):=by show VX _ _ _ _ _ _ u2;rw [hn];exact HXU.out
    have HG2:Hid (w.grownBy u2 (some b)):=by show w.grownBy u2 (some b);rw [hn];exact gb_drew HGU.out n
    clear hn v0 v1 v2 v3 v4 rv ca0 ca1 ca2 ca3 ca4 ra
    obtain ⟨ca0,ca1,ca2,ca3,ca4⟩:=HA2.out.cells
    have ra:=HA2.out.f
    obtain ⟨v0,v1,v2,v3,v4⟩:=HX2.out.cells
    go_wp2
    obtain ⟨hrow,hpost⟩:=END.out u2 J1 y1 y2 y3 P1 B1 0 HR2.out HA2.out HG2.out HE.out.1 (fun _=>HE.out.2) (fun h=>absurd rfl h)
    exact bodyPost_ret (res_row_tmp (p:=2) (u:=3) rfl _ _ A _ _ (0,0) _ rfl hrow Tryz.underlying105 rfl (by kernel_rfl)) rfl hpost
end Go.Proofs.YtpeghomkaphdcaaGreatDoor
namespace Go.Proofs.YtpeghomkaphdcaaGreatDoor
open Go.RowKit
theorem ver_bad (l:List UInt8) (h:¬ (rdVer l).1=0):(rdVer l).2.2=zeroV:=by
 unfold rdVer at h ⊢
 repeat' split
 all_goals first | rfl | (exfalso;simp_all)
theorem ver_good (l:List UInt8) (h:(rdVer l).1=0):(rdVer l).2.1=0:=by
 unfold rdVer at h ⊢
 repeat' split
 all_goals first | rfl | (exfalso;simp_all)
def valV (v:Vv):Value:=.agg #[.int .i64 v.major,.int .i64 v.minor,.int .i64 v.patch,.string ⟨v.pre.toArray⟩,.string ⟨v.build.toArray⟩]
set_option maxRecDepth 100000 in
set_option maxHeartbeats 1600000 in
theorem parse_any (s:ByteArray) (w:World) (hs:s.size < 2 ^ 62) :
  Calls Tryz.prog 70 #[.string s] w fun e w'=>e=.returned (.tuple #[valV (parseV s.data.toList).2.2,.int .i64 (parseV s.data.toList).1,.int .i64 ((parseV s.data.toList).2.1:Nat)])/\w.grownBy w' none:=by
 by_cases h100:100 < s.size
 ·have hp:parseV s.data.toList=(1,0,zeroV):=by unfold parseV;rw [if_pos (by simpa using h100)]
  rw [hp]
  clear hp
  go_enter Tryz.func70,Tryz.ntmps70
  go_wp2
  exact bodyPost_ret (res_row_tmp2 (p:=2) (u:=3) (r:=4) rfl _ _ w.heap.size _ _ (0,0) _ rfl (heap_alloc_new w _) Tryz.underlying105 rfl (by kernel_rfl)) rfl ⟨rfl,gb_alloc (gb_refl w none) _⟩
 ·have hp:parseV s.data.toList=rdVer s.data.toList:=by unfold parseV;rw [if_neg (by simpa using h100)]
  rw [hp]
  have CV:Hid (∀b w,RS b s 0 w->Calls Tryz.prog 99 #[.pointer (some ⟨b,0,none⟩)] w (VerPost b s w)):=fun b w h=>version_any b s w h (by omega)
  clear hp hs
  go_enter Tryz.func70,Tryz.ntmps70
  go_wp2_with (go_at_call 99;refine (CV.out _ _ ⟨_,row2 w _ _⟩).mono ?_)
  rintro e w1 ⟨x1,x2,x3,x4,x5,E,j,rfl,hr,hg,hE,hok,herr⟩
  obtain ⟨A,hA⟩:∃A,w.heap.size=A:=⟨_,rfl⟩
  have HXA:Hid (VX A 0 0 0 ⟨#[]⟩ ⟨#[]⟩ w1):=by
   show w1.heap[A]?=_
   rw [<-hA,hg.block w.heap.size (by simp;omega) (by simp),Lib.alloc_old _ _ _ (by simp)]
   exact heap_alloc_new w _
  have HG:Hid (w.grownBy w1 none):=by
   refine ⟨hg.os,hg.tape,hg.output,by have:=hg.size;simp at this;omega,fun k hk _=>?_⟩
   rw [hg.block k (by simp;omega) (by simp;omega),Lib.alloc_old _ _ _ (by simp;omega),Lib.alloc_old _ _ _ hk]
  have HWA:Hid (w.heap.size<=A):=Nat.le_of_eq hA
  have HE:Hid (E=(rdVer s.data.toList).1/\(E=0->(rdVer s.data.toList).2.2=⟨x1,x2,x3,x4,x5⟩)/\(E ≠ 0->(rdVer s.data.toList).2.1=j)):=⟨hE,hok,herr⟩
  rw [hA] at hr
  have HR:Hid (RS (A+1) s j w1):=hr
  rw [hA]
  clear hA hr hg hE hok herr
  obtain ⟨ca0,ca1,ca2,ca3,ca4⟩:=HXA.out.cells
  have ra:=HXA.out.f
  have r1:=HR.out.c1
  have hlt1:A+1 < w1.heap.size:=by obtain ⟨t,h⟩:=HR.out;exact (Array.getElem?_eq_some_iff.1 h).1
  have hlt0:A < w1.heap.size:=by omega
  cases hz:(E == 0) with
  | false =>
   go_wp2
   obtain ⟨W,hW⟩:∃W,w1.alloc (.cells #[.int .i64 x1,.int .i64 x2,.int .i64 x3,.string ⟨x4.toArray⟩,.string ⟨x5.toArray⟩] 105)=W:=⟨_,rfl⟩
   have hgW:w1.grownBy W none:=by rw [<-hW];exact gb_alloc (gb_refl w1 none) _
   have HXW:Hid (VX A 0 0 0 ⟨#[]⟩ ⟨#[]⟩ W):=by show W.heap[A]?=_;rw [hgW.block A hlt0 (by simp)];exact HXA.out
   have HRW:Hid (RS (A+1) s j W):=HR.out.grow hgW
   have HGW:Hid (w.grownBy W none):=gb_trans HG.out hgW
   rw [hW]
   clear hW hgW ca0 ca1 ca2 ca3 ca4 ra r1 hlt0 hlt1 HR HG HXA
   obtain ⟨ca0,ca1,ca2,ca3,ca4⟩:=HXW.out.cells
   have ra:=HXW.out.f
   have r1:=HRW.out.c1
   have HF:Hid ((rdVer s.data.toList).2.2=zeroV/\(rdVer s.data.toList).2.1=j/\(rdVer s.data.toList).1=E):=by
    have h0:¬ E=0:=by simpa using hz
    have h:=HE.out
    exact ⟨ver_bad _ (by rw [<-h.1];exact h0),h.2.2 h0,h.1.symm⟩
   go_region
   go_wp2
   refine bodyPost_ret (res_row_tmp2 (p:=2) (u:=3) (r:=4) rfl _ _ A _ _ (0,0) _ rfl (put5_row HXW.out 0 0 0 ⟨#[]⟩ ⟨#[]⟩) Tryz.underlying105 rfl (by kernel_rfl)) rfl ⟨?_,gb_drew (put5_gb0 HGW.out HWA.out 0 0 0 ⟨#[]⟩ ⟨#[]⟩) 1⟩
   rw [HF.out.1,HF.out.2.1,HF.out.2.2];rfl
  | true =>
   have hE0:E=0:=by simpa using hz
   have HF:Hid ((rdVer s.data.toList).2.2=⟨x1,x2,x3,x4,x5⟩/\(rdVer s.data.toList).2.1=0/\(rdVer s.data.toList).1=0):=by
    have h:=HE.out
    have h1:(rdVer s.data.toList).1=0:=by rw [<-h.1];exact hE0
    exact ⟨h.2.1 hE0,ver_good _ h1,h1⟩
   subst hE0
   go_wp2
   refine bodyPost_ret (res_row_tmp2 (p:=2) (u:=3) (r:=4) rfl _ _ A _ #[.int .i64 x1,.int .i64 x2,.int .i64 x3,.string ⟨x4.toArray⟩,.string ⟨x5.toArray⟩] (0,0) _ rfl ((Lib.alloc_old _ _ _ (by simpa [World.setCell] using hlt0)).trans (put5_row HXA.out x1 x2 x3 ⟨x4.toArray⟩ ⟨x5.toArray⟩)) Tryz.underlying105 rfl (by kernel_rfl)) rfl ⟨?_,gb_alloc (put5_gb0 HG.out HWA.out x1 x2 x3 ⟨x4.toArray⟩ ⟨x5.toArray⟩) _⟩
   rw [HF.out.1,HF.out.2.1,HF.out.2.2];rfl
end Go.Proofs.YtpeghomkaphdcaaGreatDoor
