import Derived.Test.YtonfldbigenfhaaGreatDoorB15
import Derived.OwnWalk
namespace Go.Proofs.YtonfldbigenfhaaGreatDoor
open Go.RowKit
set_option linter.unusedVariables false
def tailP (l:List UInt8) (i:Nat):Int × Nat × List UInt8 × List UInt8 :=
 if (optP 45 true l i).1=0 then
  (if (optP 43 false l (optP 45 true l i).2.1).1=0 then (0,(optP 43 false l (optP 45 true l i).2.1).2.1,(optP 45 true l i).2.2,(optP 43 false l (optP 45 true l i).2.1).2.2)
  else ((optP 43 false l (optP 45 true l i).2.1).1,(optP 43 false l (optP 45 true l i).2.1).2.1,[],[]))
 else ((optP 45 true l i).1,(optP 45 true l i).2.1,[],[])
theorem opt_yes {c:UInt8} {st:Bool} {l:List UInt8} {i:Nat} (h:l[i]?=some c):optP c st l i=((rdParts st l (i+1)).1,(rdParts st l (i+1)).2,partsR st l (i+1)):=by
 unfold optP partsR;rw [if_pos h]
 by_cases h0:(rdParts st l (i+1)).1=0
 ·rw [if_pos h0,if_pos h0,h0]
 ·rw [if_neg h0,if_neg h0]
theorem opt_no {c:UInt8} {st:Bool} {l:List UInt8} {i:Nat} (h:¬ l[i]?=some c):optP c st l i=(0,i,[]):=by unfold optP;rw [if_neg h]
theorem rest_le {st:Bool} {l:List UInt8} {i:Nat} (hi:i<=l.length) (h:(rdParts st l i).1=0):(rdParts st l i).2<=l.length:=(parts_take st l _ i rfl hi h).2.1
theorem opt_le {c:UInt8} {st:Bool} {l:List UInt8} {i:Nat} (hi:i<=l.length) (h:(optP c st l i).1=0):(optP c st l i).2.1<=l.length:=by
 by_cases hc:l[i]?=some c
 ·rw [opt_yes hc] at h ⊢
  exact rest_le (by have:=(List.getElem?_eq_some_iff.1 hc).1;omega) h
 ·rw [opt_no hc];exact hi
set_option maxRecDepth 100000 in
set_option maxHeartbeats 3200000 in
theorem tail_any (b:Nat) (s:ByteArray) (i:Nat) (w:World) (hi:i<=s.size) (h:RS b s i w) (hs:s.size<=281474976710656) :
  Calls Tryz.prog 135 #[.pointer (some ⟨b,0,none⟩)] w fun e w'=>e=.returned (.tuple #[.string ⟨(tailP s.data.toList i).2.2.1.toArray⟩,.string ⟨(tailP s.data.toList i).2.2.2.toArray⟩,.int .i64 (tailP s.data.toList i).1])/\RS b s (tailP s.data.toList i).2.1 w'/\w.grownBy w' (some b):=by
 have HLL:Hid (s.data.toList.length=s.size):=by show s.data.toList.length=s.size;simp
 have TY:Hid (∀(c:UInt8) i w,s.data.toList[i]?=some c->RS b s i w->Calls Tryz.prog 60 #[.pointer (some ⟨b,0,none⟩),.string ⟨#[c]⟩] w fun e w'=>e=.returned (.bool true)/\RS b s (i+1) w'/\w.grownBy w' (some b)):=fun c i w hc h=>take_yes b s i c w hc h (by omega)
 have TN:Hid (∀(c:UInt8) i w,i<=s.size->¬ s.data.toList[i]?=some c->RS b s i w->Calls Tryz.prog 60 #[.pointer (some ⟨b,0,none⟩),.string ⟨#[c]⟩] w fun e w'=>e=.returned (.bool false)/\RS b s i w'/\w.grownBy w' (some b)):=fun c i w hi hc h=>take_no b s i c w hi hc h (by omega)
 have PP:Hid (∀i w,i<=s.size->RS b s i w->Calls Tryz.prog 160 #[.pointer (some ⟨b,0,none⟩),.int .i64 0] w fun e w'=>e=.returned (.tuple #[.string ⟨(partsR true s.data.toList i).toArray⟩,.int .i64 (rdParts true s.data.toList i).1])/\RS b s (rdParts true s.data.toList i).2 w'/\w.grownBy w' (some b)):=fun i w hi h=>partsP b s i w hi h (by omega)
 have PB:Hid (∀i w,i<=s.size->RS b s i w->Calls Tryz.prog 160 #[.pointer (some ⟨b,0,none⟩),.int .i64 1] w fun e w'=>e=.returned (.tuple #[.string ⟨(partsR false s.data.toList i).toArray⟩,.int .i64 (rdParts false s.data.toList i).1])/\RS b s (rdParts false s.data.toList i).2 w'/\w.grownBy w' (some b)):=fun i w hi h=>partsB b s i w hi h (by omega)
 have HI:Hid (RS b s i w):=h
 have HIi:Hid (i<=s.size):=hi
 obtain ⟨E,J,P,B,hT⟩:∃E J P B,tailP s.data.toList i=(E,J,P,B):=⟨_,_,_,_,rfl⟩
 rw [hT]
 have HT:Hid (tailP s.data.toList i=(E,J,P,B)):=hT
 clear hT h hi hs
 cases hc1:decide (s.data.toList[i]?=some 45) with
 | false =>
  have hc':=of_decide_eq_false hc1
  have HO1:Hid (optP 45 true s.data.toList (i)=(0,i,[])):=opt_no hc'
  have CT:Hid (Calls Tryz.prog 60 #[.pointer (some ⟨b,0,none⟩),.string ⟨#[45]⟩] w fun e w'=>e=.returned (.bool false)/\RS b s (i) w'/\w.grownBy w' (some b)):=TN.out 45 (i) w HIi.out hc' HI.out
  have HJ:Hid (i<=s.size):=HIi.out
  clear hc1 hc'
  go_enter Tryz.func135,Tryz.ntmps135
  go_wp2_with (first | (go_at_call 60;refine CT.out.mono ?_))
  rintro e u1 ⟨rfl,hr,hg⟩
  have HR1:Hid (RS b s i u1):=hr
  have HG1:Hid (w.grownBy u1 (some b)):=hg
  clear hr hg
  cases hc2:decide (s.data.toList[i]?=some 43) with
  | false =>
   have hc':=of_decide_eq_false hc2
   have HO2:Hid (optP 43 false s.data.toList (i)=(0,i,[])):=opt_no hc'
   have CT:Hid (Calls Tryz.prog 60 #[.pointer (some ⟨b,0,none⟩),.string ⟨#[43]⟩] u1 fun e w'=>e=.returned (.bool false)/\RS b s (i) w'/\u1.grownBy w' (some b)):=TN.out 43 (i) u1 HJ.out hc' HR1.out
   clear hc2 hc'
   go_wp2_with (first | (go_at_call 60;refine CT.out.mono ?_))
   rintro e v1 ⟨rfl,hr,hg⟩
   have HF:Hid (RS b s (i) v1/\w.grownBy v1 (some b)):=⟨hr,gb_trans HG1.out hg⟩
   clear hr hg
   have HV:Hid (E=0/\J=i/\P=[]/\B=[]):=by
    have e:=HT.out
    unfold tailP at e
    rw [HO1.out] at e
    simp only [if_true] at e
    rw [HO2.out] at e
    simp only [if_true] at e
    exact ⟨(congrArg Prod.fst e).symm,(congrArg (·.2.1) e).symm,(congrArg (·.2.2.1) e).symm,(congrArg (·.2.2.2) e).symm⟩
   go_wp2
   refine bodyPost_ret (results_tmp3 rfl _ _ _) rfl ⟨?_,by rw [HV.out.2.1];exact HF.out.1,HF.out.2⟩
   rw [HV.out.1,HV.out.2.2.1,HV.out.2.2.2];rfl
  | true =>
   have hc':=of_decide_eq_true hc2
   have hO2:optP 43 false s.data.toList (i)=((rdParts false s.data.toList (i+1)).1,(rdParts false s.data.toList (i+1)).2,partsR false s.data.toList (i+1)):=opt_yes hc'
   have CT:Hid (Calls Tryz.prog 60 #[.pointer (some ⟨b,0,none⟩),.string ⟨#[43]⟩] u1 fun e w'=>e=.returned (.bool true)/\RS b s (i+1) w'/\u1.grownBy w' (some b)):=TY.out 43 (i) u1 hc' HR1.out
   have HJ2:Hid (i+1<=s.size):=by have:=(List.getElem?_eq_some_iff.1 hc').1;rw [HLL.out] at this;exact this
   have CB:Hid (∀w,RS b s (i+1) w->Calls Tryz.prog 160 #[.pointer (some ⟨b,0,none⟩),.int .i64 1] w fun e w'=>e=.returned (.tuple #[.string ⟨(partsR false s.data.toList (i+1)).toArray⟩,.int .i64 (rdParts false s.data.toList (i+1)).1])/\RS b s (rdParts false s.data.toList (i+1)).2 w'/\w.grownBy w' (some b)):=fun w h=>PB.out (i+1) w HJ2.out h
   obtain ⟨E2,J2,hE2⟩:∃E J,rdParts false s.data.toList (i+1)=(E,J):=⟨_,_,rfl⟩
   obtain ⟨P2,hP2⟩:∃P,partsR false s.data.toList (i+1)=P:=⟨_,rfl⟩
   have hPe:¬ E2=0->P2=[]:=fun h=>by rw [<-hP2];unfold partsR;rw [hE2,if_neg h]
   rw [hE2,hP2] at CB hO2
   simp only at CB hO2
   have HO2:Hid (optP 43 false s.data.toList (i)=(E2,J2,P2)):=hO2
   have HPe:Hid (¬ E2=0->P2=[]):=hPe
   clear hc2 hc' hE2 hP2 hO2 hPe
   go_wp2_with (first | (go_at_call 60;refine CT.out.mono ?_))
   rintro e v1 ⟨rfl,hr,hg⟩
   have HRv:Hid (RS b s (i+1) v1):=hr
   have HGv:Hid (w.grownBy v1 (some b)):=gb_trans HG1.out hg
   clear hr hg
   have CBv:Hid (Calls Tryz.prog 160 #[.pointer (some ⟨b,0,none⟩),.int .i64 1] v1 fun e w'=>e=.returned (.tuple #[.string ⟨P2.toArray⟩,.int .i64 E2])/\RS b s J2 w'/\v1.grownBy w' (some b)):=CB.out v1 HRv.out
   go_wp2_with (first | (go_at_call 160;refine CBv.out.mono ?_))
   rintro e v2 ⟨rfl,hr,hg⟩
   have HF:Hid (RS b s J2 v2/\w.grownBy v2 (some b)):=⟨hr,gb_trans HGv.out hg⟩
   clear hr hg
   cases hz2:(E2 == 0) with
   | false =>
    have h0:¬ E2=0:=by simpa using hz2
    have HV:Hid (E=E2/\J=J2/\P=[]/\B=[]):=by
     have e:=HT.out
     unfold tailP at e
     rw [HO1.out] at e
     simp only [if_true] at e
     rw [HO2.out] at e
     simp only [if_neg h0] at e
     exact ⟨(congrArg Prod.fst e).symm,(congrArg (·.2.1) e).symm,(congrArg (·.2.2.1) e).symm,(congrArg (·.2.2.2) e).symm⟩
    clear h0
    go_wp2
    refine bodyPost_ret (results_tmp3 rfl _ _ _) rfl ⟨?_,by rw [HV.out.2.1];exact HF.out.1,HF.out.2⟩
    rw [HV.out.1,HV.out.2.2.1,HV.out.2.2.2];rfl
   | true =>
    have h0:E2=0:=by simpa using hz2
    subst h0
    have HV:Hid (E=0/\J=J2/\P=[]/\B=P2):=by
     have e:=HT.out
     unfold tailP at e
     rw [HO1.out] at e
     simp only [if_true] at e
     rw [HO2.out] at e
     simp only [if_true] at e
     exact ⟨(congrArg Prod.fst e).symm,(congrArg (·.2.1) e).symm,(congrArg (·.2.2.1) e).symm,(congrArg (·.2.2.2) e).symm⟩
    go_wp2
    refine bodyPost_ret (results_tmp3 rfl _ _ _) rfl ⟨?_,by rw [HV.out.2.1];exact HF.out.1,HF.out.2⟩
    rw [HV.out.1,HV.out.2.2.1,HV.out.2.2.2];rfl
 | true =>
  have hc':=of_decide_eq_true hc1
  have hO1:optP 45 true s.data.toList (i)=((rdParts true s.data.toList (i+1)).1,(rdParts true s.data.toList (i+1)).2,partsR true s.data.toList (i+1)):=opt_yes hc'
  have CT:Hid (Calls Tryz.prog 60 #[.pointer (some ⟨b,0,none⟩),.string ⟨#[45]⟩] w fun e w'=>e=.returned (.bool true)/\RS b s (i+1) w'/\w.grownBy w' (some b)):=TY.out 45 (i) w hc' HI.out
  have HJ1:Hid (i+1<=s.size):=by have:=(List.getElem?_eq_some_iff.1 hc').1;rw [HLL.out] at this;exact this
  have CA:Hid (∀w,RS b s (i+1) w->Calls Tryz.prog 160 #[.pointer (some ⟨b,0,none⟩),.int .i64 0] w fun e w'=>e=.returned (.tuple #[.string ⟨(partsR true s.data.toList (i+1)).toArray⟩,.int .i64 (rdParts true s.data.toList (i+1)).1])/\RS b s (rdParts true s.data.toList (i+1)).2 w'/\w.grownBy w' (some b)):=fun w h=>PP.out (i+1) w HJ1.out h
  have HRL:Hid ((rdParts true s.data.toList (i+1)).1=0->(rdParts true s.data.toList (i+1)).2<=s.size):=fun h=>by have:=rest_le (st:=true) (l:=s.data.toList) (i:=i+1) (by rw [HLL.out];exact HJ1.out) h;rw [HLL.out] at this;exact this
  obtain ⟨E1,J1,hE1⟩:∃E J,rdParts true s.data.toList (i+1)=(E,J):=⟨_,_,rfl⟩
  obtain ⟨P1,hP1⟩:∃P,partsR true s.data.toList (i+1)=P:=⟨_,rfl⟩
  rw [hE1,hP1] at CA hO1
  rw [hE1] at HRL
  simp only at CA hO1 HRL
  have HO1:Hid (optP 45 true s.data.toList (i)=(E1,J1,P1)):=hO1
  clear hc1 hc' hE1 hP1 hO1
  go_enter Tryz.func135,Tryz.ntmps135
  go_wp2_with (first | (go_at_call 60;refine CT.out.mono ?_))
  rintro e u1 ⟨rfl,hr,hg⟩
  have HRu:Hid (RS b s (i+1) u1):=hr
  have HGu:Hid (w.grownBy u1 (some b)):=hg
  clear hr hg
  have CAu:Hid (Calls Tryz.prog 160 #[.pointer (some ⟨b,0,none⟩),.int .i64 0] u1 fun e w'=>e=.returned (.tuple #[.string ⟨P1.toArray⟩,.int .i64 E1])/\RS b s J1 w'/\u1.grownBy w' (some b)):=CA.out u1 HRu.out
  go_wp2_with (first | (go_at_call 160;refine CAu.out.mono ?_))
  rintro e u2 ⟨rfl,hr,hg⟩
  have HR1:Hid (RS b s J1 u2):=hr
  have HG1:Hid (w.grownBy u2 (some b)):=gb_trans HGu.out hg
  clear hr hg
  cases hz1:(E1 == 0) with
  | false =>
   have h0:¬ E1=0:=by simpa using hz1
   have HV:Hid (E=E1/\J=J1/\P=[]/\B=[]):=by
    have e:=HT.out
    unfold tailP at e
    rw [HO1.out] at e
    simp only [if_neg h0] at e
    exact ⟨(congrArg Prod.fst e).symm,(congrArg (·.2.1) e).symm,(congrArg (·.2.2.1) e).symm,(congrArg (·.2.2.2) e).symm⟩
   clear h0
   go_wp2
   refine bodyPost_ret (results_tmp3 rfl _ _ _) rfl ⟨?_,by rw [HV.out.2.1];exact HR1.out,HG1.out⟩
   rw [HV.out.1,HV.out.2.2.1,HV.out.2.2.2];rfl
  | true =>
   have h0:E1=0:=by simpa using hz1
   subst h0
   have HJ:Hid (J1<=s.size):=HRL.out rfl
   clear hz1
   cases hc2:decide (s.data.toList[J1]?=some 43) with
   | false =>
    have hc':=of_decide_eq_false hc2
    have HO2:Hid (optP 43 false s.data.toList (J1)=(0,J1,[])):=opt_no hc'
    have CT:Hid (Calls Tryz.prog 60 #[.pointer (some ⟨b,0,none⟩),.string ⟨#[43]⟩] u2 fun e w'=>e=.returned (.bool false)/\RS b s (J1) w'/\u2.grownBy w' (some b)):=TN.out 43 (J1) u2 HJ.out hc' HR1.out
    clear hc2 hc'
    go_wp2_with (first | (go_at_call 60;refine CT.out.mono ?_))
    rintro e v1 ⟨rfl,hr,hg⟩
    have HF:Hid (RS b s (J1) v1/\w.grownBy v1 (some b)):=⟨hr,gb_trans HG1.out hg⟩
    clear hr hg
    have HV:Hid (E=0/\J=J1/\P=P1/\B=[]):=by
     have e:=HT.out
     unfold tailP at e
     rw [HO1.out] at e
     simp only [if_true] at e
     rw [HO2.out] at e
     simp only [if_true] at e
     exact ⟨(congrArg Prod.fst e).symm,(congrArg (·.2.1) e).symm,(congrArg (·.2.2.1) e).symm,(congrArg (·.2.2.2) e).symm⟩
    go_wp2
    refine bodyPost_ret (results_tmp3 rfl _ _ _) rfl ⟨?_,by rw [HV.out.2.1];exact HF.out.1,HF.out.2⟩
    rw [HV.out.1,HV.out.2.2.1,HV.out.2.2.2];rfl
   | true =>
    have hc':=of_decide_eq_true hc2
    have hO2:optP 43 false s.data.toList (J1)=((rdParts false s.data.toList (J1+1)).1,(rdParts false s.data.toList (J1+1)).2,partsR false s.data.toList (J1+1)):=opt_yes hc'
    have CT:Hid (Calls Tryz.prog 60 #[.pointer (some ⟨b,0,none⟩),.string ⟨#[43]⟩] u2 fun e w'=>e=.returned (.bool true)/\RS b s (J1+1) w'/\u2.grownBy w' (some b)):=TY.out 43 (J1) u2 hc' HR1.out
    have HJ2:Hid (J1+1<=s.size):=by have:=(List.getElem?_eq_some_iff.1 hc').1;rw [HLL.out] at this;exact this
    have CB:Hid (∀w,RS b s (J1+1) w->Calls Tryz.prog 160 #[.pointer (some ⟨b,0,none⟩),.int .i64 1] w fun e w'=>e=.returned (.tuple #[.string ⟨(partsR false s.data.toList (J1+1)).toArray⟩,.int .i64 (rdParts false s.data.toList (J1+1)).1])/\RS b s (rdParts false s.data.toList (J1+1)).2 w'/\w.grownBy w' (some b)):=fun w h=>PB.out (J1+1) w HJ2.out h
    obtain ⟨E2,J2,hE2⟩:∃E J,rdParts false s.data.toList (J1+1)=(E,J):=⟨_,_,rfl⟩
    obtain ⟨P2,hP2⟩:∃P,partsR false s.data.toList (J1+1)=P:=⟨_,rfl⟩
    have hPe:¬ E2=0->P2=[]:=fun h=>by rw [<-hP2];unfold partsR;rw [hE2,if_neg h]
    rw [hE2,hP2] at CB hO2
    simp only at CB hO2
    have HO2:Hid (optP 43 false s.data.toList (J1)=(E2,J2,P2)):=hO2
    have HPe:Hid (¬ E2=0->P2=[]):=hPe
    clear hc2 hc' hE2 hP2 hO2 hPe
    go_wp2_with (first | (go_at_call 60;refine CT.out.mono ?_))
    rintro e v1 ⟨rfl,hr,hg⟩
    have HRv:Hid (RS b s (J1+1) v1):=hr
    have HGv:Hid (w.grownBy v1 (some b)):=gb_trans HG1.out hg
    clear hr hg
    have CBv:Hid (Calls Tryz.prog 160 #[.pointer (some ⟨b,0,none⟩),.int .i64 1] v1 fun e w'=>e=.returned (.tuple #[.string ⟨P2.toArray⟩,.int .i64 E2])/\RS b s J2 w'/\v1.grownBy w' (some b)):=CB.out v1 HRv.out
    go_wp2_with (first | (go_at_call 160;refine CBv.out.mono ?_))
    rintro e v2 ⟨rfl,hr,hg⟩
    have HF:Hid (RS b s J2 v2/\w.grownBy v2 (some b)):=⟨hr,gb_trans HGv.out hg⟩
    clear hr hg
    cases hz2:(E2 == 0) with
    | false =>
     have h0:¬ E2=0:=by simpa using hz2
     have HV:Hid (E=E2/\J=J2/\P=[]/\B=[]):=by
      have e:=HT.out
      unfold tailP at e
      rw [HO1.out] at e
      simp only [if_true] at e
      rw [HO2.out] at e
      simp only [if_neg h0] at e
      exact ⟨(congrArg Prod.fst e).symm,(congrArg (·.2.1) e).symm,(congrArg (·.2.2.1) e).symm,(congrArg (·.2.2.2) e).symm⟩
     clear h0
     go_wp2
     refine bodyPost_ret (results_tmp3 rfl _ _ _) rfl ⟨?_,by rw [HV.out.2.1];exact HF.out.1,HF.out.2⟩
     rw [HV.out.1,HV.out.2.2.1,HV.out.2.2.2];rfl
    | true =>
     have h0:E2=0:=by simpa using hz2
     subst h0
     have HV:Hid (E=0/\J=J2/\P=P1/\B=P2):=by
      have e:=HT.out
      unfold tailP at e
      rw [HO1.out] at e
      simp only [if_true] at e
      rw [HO2.out] at e
      simp only [if_true] at e
      exact ⟨(congrArg Prod.fst e).symm,(congrArg (·.2.1) e).symm,(congrArg (·.2.2.1) e).symm,(congrArg (·.2.2.2) e).symm⟩
     go_wp2
     refine bodyPost_ret (results_tmp3 rfl _ _ _) rfl ⟨?_,by rw [HV.out.2.1];exact HF.out.1,HF.out.2⟩
     rw [HV.out.1,HV.out.2.2.1,HV.out.2.2.2];rfl
end Go.Proofs.YtonfldbigenfhaaGreatDoor
