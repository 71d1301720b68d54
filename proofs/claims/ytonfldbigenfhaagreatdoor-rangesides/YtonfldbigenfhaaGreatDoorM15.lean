import Derived.Test.YtonfldbigenfhaaGreatDoorM14
import Derived.OwnWalk
namespace Go.Proofs.YtonfldbigenfhaaGreatDoor
open Go.RowKit
set_option linter.unusedVariables false
def tailP (l:List UInt8) (i:Nat):Int × Nat × List UInt8 × List UInt8 :=
 if (optP 45 true l i).1=0 then
  (if (optP 43 false l (optP 45 true l i).2.1).1=0 then (0,(optP 43 false l (optP 45 true l i).2.1).2.1,(optP 45 true l i).2.2,(optP 43 false l (optP 45 true l i).2.1).2.2)
  else ((optP 43 false l (optP 45 true l i).2.1).1,(optP 43 false l (optP 45 true l i).2.1).2.1,[],[]))
 else ((optP 45 true l i).1,(optP 45 true l i).2.1,[],[])
theorem opt_yes {c:UInt8} {st:Bool} {l:List UInt8} {i:Nat} (h:l[i]?=some c):optP c st l i=((rdParts st l (i+1)).1,(rdParts st l (i+1)).2,partsR st l (i+1)):=by
 unfold optP partsR;rw [if_pos h]
 by_cases h0:(rdParts st l (i+1)).1=0
 ·rw [if_pos h0,if_pos h0,h0]
 ·rw [if_neg h0,if_neg h0]
theorem opt_no {c:UInt8} {st:Bool} {l:List UInt8} {i:Nat} (h:¬ l[i]?=some c):optP c st l i=(0,i,[]):=by unfold optP;rw [if_neg h]
theorem rest_le {st:Bool} {l:List UInt8} {i:Nat} (hi:i<=l.length) (h:(rdParts st l i).1=0):(rdParts st l i).2<=l.length:=(parts_take st l _ i rfl hi h).2.1
theorem opt_le {c:UInt8} {st:Bool} {l:List UInt8} {i:Nat} (hi:i<=l.length) (h:(optP c st l i).1=0):(optP c st l i).2.1<=l.length:=by
 by_cases hc:l[i]?=some c
 ·rw [opt_yes hc] at h ⊢
  exact rest_le (by have:=(List.getElem?_eq_some_iff.1 hc).1;omega) h
 ·rw [opt_no hc];exact hi
set_option maxRecDepth 100000 in
set_option maxHeartbeats 3200000 in
theorem tail_any (b:Nat) (s:ByteArray) (i:Nat) (w:World) (hi:i<=s.size) (h:RS b s i w) (hs:s.size<=281474976710656) :
  Calls Tryz.prog 135 #[.pointer (some ⟨b,0,none⟩)] w fun e w'=>e=.returned (.tuple #[.string ⟨(tailP s.data.toList i).2.2.1.toArray⟩,.string ⟨(tailP s.data.toList i).2.2.2.toArray⟩,.int .i64 (tailP s.data.toList i).1])/\RS b s (tailP s.data.toList i).2.1 w'/\w.grownBy w' (some b):=by
 have HLL:Hid (s.data.toList.length=s.size):=by show s.data.toList.length=s.size;simp
 have TY:Hid (∀(c:UInt8) i w,s.data.toList[i]?=some c->RS b s i w->Calls Tryz.prog 60 #[.pointer (some ⟨b,0,none⟩),.string ⟨#[c]⟩] w fun e w'=>e=.returned (.bool true)/\RS b s (i+1) w'/\w.grownBy w' (some b)):=fun c i w hc h=>take_yes b s i c w hc h (by omega)
 have TN:Hid (∀(c:UInt8) i w,i<=s.size->¬ s.data.toList[i]?=some c->RS b s i w->Calls Tryz.prog 60 #[.pointer (some ⟨b,0,none⟩),.string ⟨#[c]⟩] w fun e w'=>e=.returned (.bool false)/\RS b s i w'/\w.grownBy w' (some b)):=fun c i w hi hc h=>take_no b s i c w hi hc h (by omega)
 have PP:Hid (∀i w,i<=s.size->RS b s i w->Calls Tryz.prog 160 #[.pointer (some ⟨b,0,none⟩),.int .i64 0] w fun e w'=>e=.returned (.tuple #[.string ⟨(partsR true s.data.toList i).toArray⟩,.int .i64 (rdParts true s.data.toList i).1])/\RS b s (rdParts true s.data.toList i).2 w'/\w.grownBy w' (some b)):=fun i w hi h=>partsP b s i w hi h (by omega)
 have PB:Hid (∀i w,i<=s.size->RS b s i w->Calls Tryz.prog 160 #[.pointer (some ⟨b,0,none⟩),.int .i64 1] w fun e w'=>e=.returned (.tuple #[.string ⟨(partsR false s.data.toList i).toArray⟩,.int .i64 (rdParts false s.data.toList i).1])/\RS b s (rdParts false s.data.toList i).2 w'/\w.grownBy w' (some b)):=fun i w hi h=>partsB b s i w hi h (by omega)
 have HI:Hid (RS b s i w):=h
 have HIi:Hid (i<=s.size):=hi
 obtain ⟨E,J,P,B,hT⟩:∃E J P B,tailP s.data.toList i=(E,J,P,B):=⟨_,_,_,_,rfl⟩
 rw [hT]
 have HT:Hid (tailP s.data.toList i=(E,J,P,B)):=hT
 clear hT h hi hs
 cases hc1:decide (s.data.toList[i]?=some 45) with
 | false =>
  have hc':=of_decide_eq_false hc1
  have HO1:Hid (optP 45 true s.data.toList (i)=(0,i,[])):=opt_no hc'
  have CT:Hid (Calls Tryz.prog 60 #[.pointer (some ⟨b,0,none⟩),.string ⟨#[45]⟩] w fun e w'=>e=.returned (.bool false)/\RS b s (i) w'/\w.grownBy w' (some b)):=TN.out 45 (i) w HIi.out hc' HI.out
  have HJ:Hid (i<=s.size):=HIi.out
  clear hc1 hc'
  go_enter Tryz.func135,Tryz.ntmps135
  go_wp2_with (first | (go_at_call 60;refine CT.out.mono ?_))
  rintro e u1 ⟨rfl,hr,hg⟩
  have HR1:Hid (RS b s i u1):=hr
  have HG1:Hid (w.grownBy u1 (some b)):=hg
  clear hr hg
  cases hc2:decide (s.data.toList[i]?=some 43) with
  | false =>
   have hc':=of_decide_eq_false hc2
   have HO2:Hid (optP 43 false s.data.toList (i)=(0,i,[])):=opt_no hc'
   have CT:Hid (Calls Tryz.prog 60 #[.pointer (some ⟨b,0,none⟩),.string ⟨#[43]⟩] u1 fun e w'=>e=.returned (.bool false)/\RS b s (i) w'/\u1.grownBy w' (some b)):=TN.out 43 (i) u1 HJ.out hc' HR1.out
   clear hc2 hc'
   go_wp2_with (first | (go_at_call 60;refine CT.out.mono ?_))
   rintro e v1 ⟨rfl,hr,hg⟩
   have HF:Hid (RS b s (i) v1/\w.grownBy v1 (some b)):=⟨hr,gb_trans HG1.out hg⟩
   clear hr hg
   have HV:Hid (E=0/\J=i/\P=[]/\B=[]):=by
    have e:=HT.out
    unfold tailP at e
    rw [HO1.out] at e
    simp only [if_true] at e
    rw [HO2.out] at e
    simp only [if_true] at e
    exact ⟨(congrArg Prod.fst e).symm,(congrArg (·.2.1) e).symm,(congrArg (·.2.2.1) e).symm,(congrArg (·.2.2.2) e).symm⟩
   go_wp2
   refine bodyPost_ret (results_tmp3 rfl _ _ _) rfl ⟨?_,by rw [HV.out.2.1];exact HF.out.1,HF.out.2⟩
   rw [HV.out.1,HV.out.2.2.1,HV.out.2.2.2];rfl
  | true =>
   have hc':=of_decide_eq_true hc2
   have hO2:optP 43 false s.data.toList (i)=((rdParts false s.data.toList (i+1)).1,(rdParts false s.data.toList (i+1)).2,partsR false s.data.toList (i+1)):=opt_yes hc'
   have CT:Hid (Calls Tryz.prog 60 #[.pointer (some ⟨b,0,none⟩),.string ⟨#[43]⟩] u1 fun e w'=>e=.returned (.bool true)/\RS b s (i+1) w'/\u1.grownBy w' (some b)):=TY.out 43 (i) u1 hc' HR1.out
   have HJ2:Hid (i+1<=s.size):=by have:=(List.getElem?_eq_some_iff.1 hc').1;rw [HLL.out] at this;exact this
   have CB:Hid (∀w,RS b s (i+1) w->Calls Tryz.prog 160 #[.pointer (some ⟨b,0,none⟩),.int .i64 1] w fun e w'=>e=.returned (.tuple #[.string ⟨(partsR false s.data.toList (i+1)).toArray⟩,.int .i64 (rdParts false s.data.toList (i+1)).1])/\RS b s (rdParts false s.data.toList (i+1)).2 w'/\w.grownBy w' (some b)):=fun w h=>PB.out (i+1) w HJ2.out h
   obtain ⟨E2,J2,hE2⟩:∃E J,rdParts false s.data.toList (i+1)=(E,J):=⟨_,_,rfl⟩
   obtain ⟨P2,hP2⟩:∃P,partsR false s.data.toList (i+1)=P:=⟨_,rfl⟩
   have hPe:¬ E2=0->P2=[]:=fun h=>by rw [<-hP2];unfold partsR;rw [hE2,if_neg h]
   rw [hE2,hP2] at CB hO2
   simp only at CB hO2
   have HO2:Hid (optP 43 false s.data.toList (i)=(E2,J2,P2)):=hO2
   have HPe:Hid (¬ E2=0->P2=[]):=hPe
   clear hc2 hc' hE2 hP2 hO2 hPe
   go_wp2_with (first | (go_at_call 60;refine CT.out.mono ?_))
   rintro e v1 ⟨rfl,hr,hg⟩
   have HRv:Hid (RS b s (i+1) v1):=hr
   have HGv:Hid (w.grownBy v1 (some b)):=gb_trans HG1.out hg
   clear hr hg
   have CBv:Hid (Calls Tryz.prog 160 #[.pointer (some ⟨b,0,none⟩),.int .i64 1] v1 fun e w'=>e=.returned (.tuple #[.string ⟨P2.toArray⟩,.int .i64 E2])/\RS b s J2 w'/\v1.grownBy w' (some b)):=CB.out v1 HRv.out
   go_wp2_with (first | (go_at_call 160;refine CBv.out.mono ?_))
   rintro e v2 ⟨rfl,hr,hg⟩
   have HF:Hid (RS b s J2 v2/\w.grownBy v2 (some b)):=⟨hr,gb_trans HGv.out hg⟩
   clear hr hg
   cases hz2:(E2 == 0) with
   | false =>
    have h0:¬ E2=0:=by simpa using hz2
    have HV:Hid (E=E2/\J=J2/\P=[]/\B=[]):=by
     have e:=HT.out
     unfold tailP at e
     rw [HO1.out] at e
     simp only [if_true] at e
     rw [HO2.out] at e
     simp only [if_neg h0] at e
     exact ⟨(congrArg Prod.fst e).symm,(congrArg (·.2.1) e).symm,(congrArg (·.2.2.1) e).symm,(congrArg (·.2.2.2) e).symm⟩
    clear h0
    go_wp2
    refine bodyPost_ret (results_tmp3 rfl _ _ _) rfl ⟨?_,by rw [HV.out.2.1];exact HF.out.1,HF.out.2⟩
    rw [HV.out.1,HV.out.2.2.1,HV.out.2.2.2];rfl
   | true =>
    have h0:E2=0:=by simpa using hz2
    subst h0
    have HV:Hid (E=0/\J=J2/\P=[]/\B=P2):=by
     have e:=HT.out
     unfold tailP at e
     rw [HO1.out] at e
     simp only [if_true] at e
     rw [HO2.out] at e
     simp only [if_true] at e
     exact ⟨(congrArg Prod.fst e).symm,(congrArg (·.2.1) e).symm,(congrArg (·.2.2.1) e).symm,(congrArg (·.2.2.2) e).symm⟩
    go_wp2
    refine bodyPost_ret (results_tmp3 rfl _ _ _) rfl ⟨?_,by rw [HV.out.2.1];exact HF.out.1,HF.out.2⟩
    rw [HV.out.1,HV.out.2.2.1,HV.out.2.2.2];rfl
 | true =>
  have hc':=of_decide_eq_true hc1
  have hO1:optP 45 true s.data.toList (i)=((rdParts true s.data.toList (i+1)).1,(rdParts true s.data.toList (i+1)).2,partsR true s.data.toList (i+1)):=opt_yes hc'
  have CT:Hid (Calls Tryz.prog 60 #[.pointer (some ⟨b,0,none⟩),.string ⟨#[45]⟩] w fun e w'=>e=.returned (.bool true)/\RS b s (i+1) w'/\w.grownBy w' (some b)):=TY.out 45 (i) w hc' HI.out
  have HJ1:Hid (i+1<=s.size):=by have:=(List.getElem?_eq_some_iff.1 hc').1;rw [HLL.out] at this;exact this
  have CA:Hid (∀w,RS b s (i+1) w->Calls Tryz.prog 160 #[.pointer (some ⟨b,0,none⟩),.int .i64 0] w fun e w'=>e=.returned (.tuple #[.string ⟨(partsR true s.data.toList (i+1)).toArray⟩,.int .i64 (rdParts true s.data.toList (i+1)).1])/\RS b s (rdParts true s.data.toList (i+1)).2 w'/\w.grownBy w' (some b)):=fun w h=>PP.out (i+1) w HJ1.out h
  have HRL:Hid ((rdParts true s.data.toList (i+1)).1=0->(rdParts true s.data.toList (i+1)).2<=s.size):=fun h=>by have:=rest_le (st:=true) (l:=s.data.toList) (i:=i+1) (by rw [HLL.out];exact HJ1.out) h;rw [HLL.out] at this;exact this
  obtain ⟨E1,J1,hE1⟩:∃E J,rdParts true s.data.toList (i+1)=(E,J):=⟨_,_,rfl⟩
  obtain ⟨P1,hP1⟩:∃P,partsR true s.data.toList (i+1)=P:=⟨_,rfl⟩
  rw [hE1,hP1] at CA hO1
  rw [hE1] at HRL
  simp only at CA hO1 HRL
  have HO1:Hid (optP 45 true s.data.toList (i)=(E1,J1,P1)):=hO1
  clear hc1 hc' hE1 hP1 hO1
  go_enter Tryz.func135,Tryz.ntmps135
  go_wp2_with (first | (go_at_call 60;refine CT.out.mono ?_))
  rintro e u1 ⟨rfl,hr,hg⟩
  have HRu:Hid (RS b s (i+1) u1):=hr
  have HGu:Hid (w.grownBy u1 (some b)):=hg
  clear hr hg
  have CAu:Hid (Calls Tryz.prog 160 #[.pointer (some ⟨b,0,none⟩),.int .i64 0] u1 fun e w'=>e=.returned (.tuple #[.string ⟨P1.toArray⟩,.int .i64 E1])/\RS b s J1 w'/\u1.grownBy w' (some b)):=CA.out u1 HRu.out
  go_wp2_with (first | (go_at_call 160;refine CAu.out.mono ?_))
  rintro e u2 ⟨rfl,hr,hg⟩
  have HR1:Hid (RS b s J1 u2):=hr
  have HG1:Hid (w.grownBy u2 (some b)):=gb_trans HGu.out hg
  clear hr hg
  cases hz1:(E1 == 0) with
  | false =>
   have h0:¬ E1=0:=by simpa using hz1
   have HV:Hid (E=E1/\J=J1/\P=[]/\B=[]):=by
    have e:=HT.out
    unfold tailP at e
    rw [HO1.out] at e
    simp only [if_neg h0] at e
    exact ⟨(congrArg Prod.fst e).symm,(congrArg (·.2.1) e).symm,(congrArg (·.2.2.1) e).symm,(congrArg (·.2.2.2) e).symm⟩
   clear h0
   go_wp2
   refine bodyPost_ret (results_tmp3 rfl _ _ _) rfl ⟨?_,by rw [HV.out.2.1];exact HR1.out,HG1.out⟩
   rw [HV.out.1,HV.out.2.2.1,HV.out.2.2.2];rfl
  | true =>
   have h0:E1=0:=by simpa using hz1
   subst h0
   have HJ:Hid (J1<=s.size):=HRL.out rfl
   clear hz1
   cases hc2:decide (s.data.toList[J1]?=some 43) with
   | false =>
    have hc':=of_decide_eq_false hc2
    have HO2:Hid (optP 43 false s.data.toList (J1)=(0,J1,[])):=opt_no hc'
    have CT:Hid (Calls Tryz.prog 60 #[.pointer (some ⟨b,0,none⟩),.string ⟨#[43]⟩] u2 fun e w'=>e=.returned (.bool false)/\RS b s (J1) w'/\u2.grownBy w' (some b)):=TN.out 43 (J1) u2 HJ.out hc' HR1.out
    clear hc2 hc'
    go_wp2_with (first | (go_at_call 60;refine CT.out.mono ?_))
    rintro e v1 ⟨rfl,hr,hg⟩
    have HF:Hid (RS b s (J1) v1/\w.grownBy v1 (some b)):=⟨hr,gb_trans HG1.out hg⟩
    clear hr hg
    have HV:Hid (E=0/\J=J1/\P=P1/\B=[]):=by
     have e:=HT.out
     unfold tailP at e
     rw [HO1.out] at e
     simp only [if_true] at e
     rw [HO2.out] at e
     simp only [if_true] at e
     exact ⟨(congrArg Prod.fst e).symm,(congrArg (·.2.1) e).symm,(congrArg (·.2.2.1) e).symm,(congrArg (·.2.2.2) e).symm⟩
    go_wp2
    refine bodyPost_ret (results_tmp3 rfl _ _ _) rfl ⟨?_,by rw [HV.out.2.1];exact HF.out.1,HF.out.2⟩
    rw [HV.out.1,HV.out.2.2.1,HV.out.2.2.2];rfl
   | true =>
    have hc':=of_decide_eq_true hc2
    have hO2:optP 43 false s.data.toList (J1)=((rdParts false s.data.toList (J1+1)).1,(rdParts false s.data.toList (J1+1)).2,partsR false s.data.toList (J1+1)):=opt_yes hc'
    have CT:Hid (Calls Tryz.prog 60 #[.pointer (some ⟨b,0,none⟩),.string ⟨#[43]⟩] u2 fun e w'=>e=.returned (.bool true)/\RS b s (J1+1) w'/\u2.grownBy w' (some b)):=TY.out 43 (J1) u2 hc' HR1.out
    have HJ2:Hid (J1+1<=s.size):=by have:=(List.getElem?_eq_some_iff.1 hc').1;rw [HLL.out] at this;exact this
    have CB:Hid (∀w,RS b s (J1+1) w->Calls Tryz.prog 160 #[.pointer (some ⟨b,0,none⟩),.int .i64 1] w fun e w'=>e=.returned (.tuple #[.string ⟨(partsR false s.data.toList (J1+1)).toArray⟩,.int .i64 (rdParts false s.data.toList (J1+1)).1])/\RS b s (rdParts false s.data.toList (J1+1)).2 w'/\w.grownBy w' (some b)):=fun w h=>PB.out (J1+1) w HJ2.out h
    obtain ⟨E2,J2,hE2⟩:∃E J,rdParts false s.data.toList (J1+1)=(E,J):=⟨_,_,rfl⟩
    obtain ⟨P2,hP2⟩:∃P,partsR false s.data.toList (J1+1)=P:=⟨_,rfl⟩
    have hPe:¬ E2=0->P2=[]:=fun h=>by rw [<-hP2];unfold partsR;rw [hE2,if_neg h]
    rw [hE2,hP2] at CB hO2
    simp only at CB hO2
    have HO2:Hid (optP 43 false s.data.toList (J1)=(E2,J2,P2)):=hO2
    have HPe:Hid (¬ E2=0->P2=[]):=hPe
    clear hc2 hc' hE2 hP2 hO2 hPe
    go_wp2_with (first | (go_at_call 60;refine CT.out.mono ?_))
    rintro e v1 ⟨rfl,hr,hg⟩
    have HRv:Hid (RS b s (J1+1) v1):=hr
    have HGv:Hid (w.grownBy v1 (some b)):=gb_trans HG1.out hg
    clear hr hg
    have CBv:Hid (Calls Tryz.prog 160 #[.pointer (some ⟨b,0,none⟩),.int .i64 1] v1 fun e w'=>e=.returned (.tuple #[.string ⟨P2.toArray⟩,.int .i64 E2])/\RS b s J2 w'/\v1.grownBy w' (some b)):=CB.out v1 HRv.out
    go_wp2_with (first | (go_at_call 160;refine CBv.out.mono ?_))
    rintro e v2 ⟨rfl,hr,hg⟩
    have HF:Hid (RS b s J2 v2/\w.grownBy v2 (some b)):=⟨hr,gb_trans HGv.out hg⟩
    clear hr hg
    cases hz2:(E2 == 0) with
    | false =>
     have h0:¬ E2=0:=by simpa using hz2
     have HV:Hid (E=E2/\J=J2/\P=[]/\B=[]):=by
      have e:=HT.out
      unfold tailP at e
      rw [HO1.out] at e
      simp only [if_true] at e
      rw [HO2.out] at e
      simp only [if_neg h0] at e
      exact ⟨(congrArg Prod.fst e).symm,(congrArg (·.2.1) e).symm,(congrArg (·.2.2.1) e).symm,(congrArg (·.2.2.2) e).symm⟩
     clear h0
     go_wp2
     refine bodyPost_ret (results_tmp3 rfl _ _ _) rfl ⟨?_,by rw [HV.out.2.1];exact HF.out.1,HF.out.2⟩
     rw [HV.out.1,HV.out.2.2.1,HV.out.2.2.2];rfl
    | true =>
     have h0:E2=0:=by simpa using hz2
     subst h0
     have HV:Hid (E=0/\J=J2/\P=P1/\B=P2):=by
      have e:=HT.out
      unfold tailP at e
      rw [HO1.out] at e
      simp only [if_true] at e
      rw [HO2.out] at e
      simp only [if_true] at e
      exact ⟨(congrArg Prod.fst e).symm,(congrArg (·.2.1) e).symm,(congrArg (·.2.2.1) e).symm,(congrArg (·.2.2.2) e).symm⟩
     go_wp2
     refine bodyPost_ret (results_tmp3 rfl _ _ _) rfl ⟨?_,by rw [HV.out.2.1];exact HF.out.1,HF.out.2⟩
     rw [HV.out.1,HV.out.2.2.1,HV.out.2.2.2];rfl
def isSp (c:UInt8):Bool:=decide (c=32)
def wildAt (l:List UInt8) (i:Nat):Bool:=decide (l[i]?=some 42) || (decide (l[i]?=some 120) || decide (l[i]?=some 88))
def pa0:Pa:=⟨0,0,0,0,[]⟩
def pa3 (l:List UInt8) (j:Nat) (a b c:Int):Int × Nat × Pa :=
 if (tailP l j).1=0 then (0,(tailP l j).2.1,⟨3,a,b,c,(tailP l j).2.2.1⟩) else ((tailP l j).1,(tailP l j).2.1,pa0)
def pa2 (l:List UInt8) (j:Nat) (a b:Int):Int × Nat × Pa :=
 if l[j]?=some 46 then (if wildAt l (j+1)=true then (0,j+2,⟨2,a,b,0,[]⟩) else if (rdNum l (j+1)).1=0 then pa3 l (rdNum l (j+1)).2.2 a b (rdNum l (j+1)).2.1 else ((rdNum l (j+1)).1,(rdNum l (j+1)).2.2,pa0))
 else (0,j,⟨2,a,b,0,[]⟩)
def pa1 (l:List UInt8) (j:Nat) (a:Int):Int × Nat × Pa :=
 if l[j]?=some 46 then (if wildAt l (j+1)=true then (0,j+2,⟨1,a,0,0,[]⟩) else if (rdNum l (j+1)).1=0 then pa2 l (rdNum l (j+1)).2.2 a (rdNum l (j+1)).2.1 else ((rdNum l (j+1)).1,(rdNum l (j+1)).2.2,pa0))
 else (0,j,⟨1,a,0,0,[]⟩)
def rdPa (l:List UInt8) (i:Nat):Int × Nat × Pa :=
 if wildAt l i=true then (0,i+1,pa0) else if (rdNum l i).1=0 then pa1 l (rdNum l i).2.2 (rdNum l i).2.1 else ((rdNum l i).1,(rdNum l i).2.2,pa0)
def rdSign (l:List UInt8) (i:Nat):Int × Nat :=
 if l[i]?=some 62 then (if l[i+1]?=some 61 then (1,i+2) else (3,i+1))
 else if l[i]?=some 60 then (if l[i+1]?=some 61 then (2,i+2) else (4,i+1))
 else if l[i]?=some 61 then (0,i+1) else if l[i]?=some 94 then (5,i+1) else if l[i]?=some 126 then (6,i+1) else (-1,i)
def barsAt (l:List UInt8) (i:Nat):Bool:=decide (l[i]?=some 124) && decide (l[i+1]?=some 124)
def endsAt (l:List UInt8) (i:Nat):Bool:=decide (l.length<=i) || barsAt l i
def skipW (l:List UInt8) (i:Nat):Nat:=i+runN isSp l i
def signOr (s:Int):Int:=if s < 0 then 0 else s
def dset (l:List UInt8):Nat->Nat->List Te->Int × Nat × List Te
 | 0,i,acc=>(0,i,acc)
 | f+1,i,acc =>
  if endsAt l i=true then (0,i,acc) else
  if (rdPa l (rdSign l i).2).1=0 then
   (if ((rdSign l i).1 < 0/\acc=[])/\(rdPa l (rdSign l i).2).2.1 < skipW l (rdPa l (rdSign l i).2).2.1/\l[skipW l (rdPa l (rdSign l i).2).2.1]?=some 45 then
    (if skipW l (skipW l (rdPa l (rdSign l i).2).2.1+1)=skipW l (rdPa l (rdSign l i).2).2.1+1 then (2,skipW l (rdPa l (rdSign l i).2).2.1+1,acc) else
    if (rdPa l (skipW l (skipW l (rdPa l (rdSign l i).2).2.1+1))).1=0 then
     (if endsAt l (skipW l (rdPa l (skipW l (skipW l (rdPa l (rdSign l i).2).2.1+1))).2.1)=true then (0,skipW l (rdPa l (skipW l (skipW l (rdPa l (rdSign l i).2).2.1+1))).2.1,[⟨7,(rdPa l (rdSign l i).2).2.2⟩,⟨2,(rdPa l (skipW l (skipW l (rdPa l (rdSign l i).2).2.1+1))).2.2⟩])
     else (2,skipW l (rdPa l (skipW l (skipW l (rdPa l (rdSign l i).2).2.1+1))).2.1,acc))
    else ((rdPa l (skipW l (skipW l (rdPa l (rdSign l i).2).2.1+1))).1,(rdPa l (skipW l (skipW l (rdPa l (rdSign l i).2).2.1+1))).2.1,acc))
   else if ¬ (rdPa l (rdSign l i).2).2.1 < skipW l (rdPa l (rdSign l i).2).2.1/\¬ endsAt l (skipW l (rdPa l (rdSign l i).2).2.1)=true then (2,skipW l (rdPa l (rdSign l i).2).2.1,acc)
   else dset l f (skipW l (rdPa l (rdSign l i).2).2.1) (acc++[⟨signOr (rdSign l i).1,(rdPa l (rdSign l i).2).2.2⟩]))
  else ((rdPa l (rdSign l i).2).1,(rdPa l (rdSign l i).2).2.1,acc)
def pset (l:List UInt8):Nat->Nat->List Te->Int × Nat × List Te
 | 0,i,acc=>(0,i,acc)
 | f+1,i,acc =>
  if l.length<=i\/l[i]?=some 124 then (0,i,acc) else
  if (rdPa l (rdSign l i).2).1=0 then
   (if ((rdSign l i).1 < 0/\acc=[])/\(rdPa l (rdSign l i).2).2.1 < skipW l (rdPa l (rdSign l i).2).2.1/\l[skipW l (rdPa l (rdSign l i).2).2.1]?=some 45 then
    (if skipW l (skipW l (rdPa l (rdSign l i).2).2.1+1)=skipW l (rdPa l (rdSign l i).2).2.1+1 then (2,skipW l (rdPa l (rdSign l i).2).2.1+1,acc) else
    if (rdPa l (skipW l (skipW l (rdPa l (rdSign l i).2).2.1+1))).1=0 then (0,(rdPa l (skipW l (skipW l (rdPa l (rdSign l i).2).2.1+1))).2.1,[⟨7,(rdPa l (rdSign l i).2).2.2⟩,⟨2,(rdPa l (skipW l (skipW l (rdPa l (rdSign l i).2).2.1+1))).2.2⟩])
    else ((rdPa l (skipW l (skipW l (rdPa l (rdSign l i).2).2.1+1))).1,(rdPa l (skipW l (skipW l (rdPa l (rdSign l i).2).2.1+1))).2.1,acc))
   else if ¬ (rdPa l (rdSign l i).2).2.1 < skipW l (rdPa l (rdSign l i).2).2.1 then (0,skipW l (rdPa l (rdSign l i).2).2.1,acc++[⟨signOr (rdSign l i).1,(rdPa l (rdSign l i).2).2.2⟩])
   else pset l f (skipW l (rdPa l (rdSign l i).2).2.1) (acc++[⟨signOr (rdSign l i).1,(rdPa l (rdSign l i).2).2.2⟩]))
  else ((rdPa l (rdSign l i).2).1,(rdPa l (rdSign l i).2).2.1,acc)
def after (l:List UInt8) (r:Int × Nat × List Te):Int × Nat × List Te :=
 if r.1=0 then (if endsAt l (skipW l r.2.1)=true then (0,skipW l r.2.1,r.2.2) else (2,skipW l r.2.1,r.2.2)) else r
theorem skip_ge (l:List UInt8) (i:Nat):i<=skipW l i:=by unfold skipW;omega
theorem skip_stop (l:List UInt8) (i:Nat) (h:i<=l.length):skipW l (skipW l i)=skipW l i:=by
 unfold skipW
 have:runN isSp l (i+runN isSp l i)=0:=runN_eq isSp l _ 0 (Nat.zero_le _) (fun hlt=>by
  have:=runN_stop isSp l i (by simpa using hlt)
  simpa using this)
 omega
def same (x y:Int × Nat × List Te):Prop:=x.1=y.1/\x.2.1=y.2.1/\(x.1=0->x.2.2=y.2.2)
theorem bar_pa (l:List UInt8) (i:Nat) (h:l[i]?=some 124):rdSign l i=(-1,i)/\(rdPa l i).1=2/\(rdPa l i).2.1=i:=by
 have hs:rdSign l i=(-1,i):=by unfold rdSign;simp [h]
 have hw:wildAt l i=false:=by unfold wildAt;simp [h]
 have hr:runN isD l i=0:=runN_eq isD l i 0 (Nat.zero_le _) (fun hlt=>by
  have:l[i+0]'hlt=124:=by
   have:=List.getElem?_eq_some_iff.1 h
   obtain ⟨_,e⟩:=this
   simpa using e
  rw [this];decide)
 have hn:rdNum l i=(2,0,i):=by unfold rdNum;rw [if_pos hr]
 refine ⟨hs,?_,?_⟩
 ·unfold rdPa;rw [hw,hn];rfl
 ·unfold rdPa;rw [hw,hn];rfl
theorem num_pos (l:List UInt8) (i:Nat) (hi:i<=l.length) (h:(rdNum l i).1=0):i < (rdNum l i).2.2/\(rdNum l i).2.2<=l.length:=by
 have hr:=runN_le isD l i hi
 unfold rdNum at h ⊢
 split at h
 ·simp at h
 ·rename_i h1
  split at h
  ·simp at h
  ·rename_i h2
   split at h
   ·simp at h
   ·rename_i h3
    rw [if_neg h1,if_neg h2,if_neg h3]
    simp only []
    omega
theorem opt_pos (c:UInt8) (st:Bool) (l:List UInt8) (i:Nat) (hi:i<=l.length) (h:(optP c st l i).1=0):i<=(optP c st l i).2.1/\(optP c st l i).2.1<=l.length:=by
 refine ⟨?_,opt_le hi h⟩
 by_cases hc:l[i]?=some c
 ·rw [opt_yes hc] at h ⊢
  simp only at h ⊢
  have hlt:=(List.getElem?_eq_some_iff.1 hc).1
  have:=(parts_take st l _ (i+1) rfl (by omega) h).1
  omega
 ·rw [opt_no hc];simp
theorem tail_pos (l:List UInt8) (i:Nat) (hi:i<=l.length) (h:(tailP l i).1=0):i<=(tailP l i).2.1/\(tailP l i).2.1<=l.length:=by
 unfold tailP at h ⊢
 by_cases h1:(optP 45 true l i).1=0
 ·rw [if_pos h1] at h ⊢
  have p1:=opt_pos 45 true l i hi h1
  by_cases h2:(optP 43 false l (optP 45 true l i).2.1).1=0
  ·rw [if_pos h2] at h ⊢
   have p2:=opt_pos 43 false l _ p1.2 h2
   simp only []
   omega
  ·rw [if_neg h2] at h
   exact absurd h h2
 ·rw [if_neg h1] at h
  exact absurd h h1
theorem dot_lt {l:List UInt8} {j:Nat} {c:UInt8} (h:l[j]?=some c):j < l.length:=(List.getElem?_eq_some_iff.1 h).1
theorem wild_lt {l:List UInt8} {i:Nat} (h:wildAt l i=true):i < l.length:=by
 unfold wildAt at h
 simp only [Bool.or_eq_true,decide_eq_true_eq] at h
 rcases h with h | h | h <;> exact dot_lt h
theorem pa3_pos (l:List UInt8) (j:Nat) (a b c:Int) (hj:j<=l.length) (h:(pa3 l j a b c).1=0):j<=(pa3 l j a b c).2.1/\(pa3 l j a b c).2.1<=l.length:=by
 unfold pa3 at h ⊢
 by_cases h1:(tailP l j).1=0
 ·rw [if_pos h1];exact tail_pos l j hj h1
 ·rw [if_neg h1] at h;exact absurd h h1
theorem pa2_pos (l:List UInt8) (j:Nat) (a b:Int) (hj:j<=l.length) (h:(pa2 l j a b).1=0):j<=(pa2 l j a b).2.1/\(pa2 l j a b).2.1<=l.length:=by
 unfold pa2 at h ⊢
 by_cases h1:l[j]?=some 46
 ·have hl:=dot_lt h1
  rw [if_pos h1] at h ⊢
  by_cases h2:wildAt l (j+1)=true
  ·have:=wild_lt h2
   rw [if_pos h2];simp only [];omega
  ·rw [if_neg h2] at h ⊢
   by_cases h3:(rdNum l (j+1)).1=0
   ·have p1:=num_pos l (j+1) (by omega) h3
    rw [if_pos h3] at h ⊢
    have p2:=pa3_pos l _ a b _ p1.2 h
    omega
   ·rw [if_neg h3] at h;exact absurd h h3
 ·rw [if_neg h1];simp only [];omega
theorem pa1_pos (l:List UInt8) (j:Nat) (a:Int) (hj:j<=l.length) (h:(pa1 l j a).1=0):j<=(pa1 l j a).2.1/\(pa1 l j a).2.1<=l.length:=by
 unfold pa1 at h ⊢
 by_cases h1:l[j]?=some 46
 ·have hl:=dot_lt h1
  rw [if_pos h1] at h ⊢
  by_cases h2:wildAt l (j+1)=true
  ·have:=wild_lt h2
   rw [if_pos h2];simp only [];omega
  ·rw [if_neg h2] at h ⊢
   by_cases h3:(rdNum l (j+1)).1=0
   ·have p1:=num_pos l (j+1) (by omega) h3
    rw [if_pos h3] at h ⊢
    have p2:=pa2_pos l _ a _ p1.2 h
    omega
   ·rw [if_neg h3] at h;exact absurd h h3
 ·rw [if_neg h1];simp only [];omega
theorem pa_pos (l:List UInt8) (i:Nat) (hi:i<=l.length) (h:(rdPa l i).1=0):i < (rdPa l i).2.1/\(rdPa l i).2.1<=l.length:=by
 unfold rdPa at h ⊢
 by_cases h2:wildAt l i=true
 ·have:=wild_lt h2
  rw [if_pos h2];simp only [];omega
 ·rw [if_neg h2] at h ⊢
  by_cases h3:(rdNum l i).1=0
  ·have p1:=num_pos l i hi h3
   rw [if_pos h3] at h ⊢
   have p2:=pa1_pos l _ _ p1.2 h
   omega
  ·rw [if_neg h3] at h;exact absurd h h3
theorem sign_pos (l:List UInt8) (i:Nat) (hi:i<=l.length):i<=(rdSign l i).2/\(rdSign l i).2<=l.length:=by
 unfold rdSign
 repeat' split
 all_goals simp only []
 ·rename_i h1 h2;have:=dot_lt h2;omega
 ·rename_i h1 h2;have:=dot_lt h1;omega
 ·rename_i h0 h1 h2;have:=dot_lt h2;omega
 ·rename_i h0 h1 h2;have:=dot_lt h1;omega
 ·rename_i h;have:=dot_lt h;omega
 ·rename_i h;have:=dot_lt h;omega
 ·rename_i h;have:=dot_lt h;omega
 ·omega
theorem skip_le (l:List UInt8) (i:Nat) (hi:i<=l.length):skipW l i<=l.length:=runN_le isSp l i hi
theorem set_same (l:List UInt8):∀(f i:Nat) (acc:List Te),l.length < f+i->i<=l.length->skipW l i=i->same (after l (pset l f i acc)) (dset l f i acc)
 | 0,i,acc,hf,hi,_=>by omega
 | f+1,i,acc,hf,hi,hsk=>by
  by_cases he:endsAt l i=true
  ·have hp:l.length<=i\/l[i]?=some 124:=by
    unfold endsAt barsAt at he
    simp only [Bool.or_eq_true,Bool.and_eq_true,decide_eq_true_eq] at he
    rcases he with h | h
    ·exact Or.inl h
    ·exact Or.inr h.1
   have e1:pset l (f+1) i acc=(0,i,acc):=by unfold pset;rw [if_pos hp]
   have e2:dset l (f+1) i acc=(0,i,acc):=by unfold dset;rw [if_pos he]
   rw [e1,e2]
   unfold after
   simp only [if_true,hsk,he]
   exact ⟨rfl,rfl,fun _=>rfl⟩
  ·by_cases hb:l[i]?=some 124
   ·obtain ⟨b1,b2,b3⟩:=bar_pa l i hb
    have e1:pset l (f+1) i acc=(0,i,acc):=by unfold pset;rw [if_pos (Or.inr hb)]
    have e2:dset l (f+1) i acc=(2,i,acc):=by
     unfold dset
     rw [if_neg he,b1]
     simp only []
     rw [b2,if_neg (by decide),b3]
    rw [e1,e2]
    unfold after
    simp only [if_true,hsk,if_neg he]
    exact ⟨rfl,rfl,fun h=>by cases h⟩
   ·have hnl:¬ l.length<=i:=by
     intro h
     apply he
     unfold endsAt
     simp [h]
    have hnp:¬ (l.length<=i\/l[i]?=some 124):=fun h=>h.elim hnl hb
    have sp:=sign_pos l i hi
    unfold pset dset
    rw [if_neg hnp,if_neg he]
    by_cases hr:(rdPa l (rdSign l i).2).1=0
    ·have pp:=pa_pos l _ sp.2 hr
     have hkl:=skip_le l _ pp.2
     have hkg:=skip_ge l (rdPa l (rdSign l i).2).2.1
     rw [if_pos hr,if_pos hr]
     by_cases hbt:((rdSign l i).1 < 0/\acc=[])/\(rdPa l (rdSign l i).2).2.1 < skipW l (rdPa l (rdSign l i).2).2.1/\l[skipW l (rdPa l (rdSign l i).2).2.1]?=some 45
     ·rw [if_pos hbt,if_pos hbt]
      by_cases hm:skipW l (skipW l (rdPa l (rdSign l i).2).2.1+1)=skipW l (rdPa l (rdSign l i).2).2.1+1
      ·rw [if_pos hm,if_pos hm]
       unfold after
       rw [if_neg (by simp)]
       exact ⟨rfl,rfl,fun h=>by cases h⟩
      ·rw [if_neg hm,if_neg hm]
       by_cases hq:(rdPa l (skipW l (skipW l (rdPa l (rdSign l i).2).2.1+1))).1=0
       ·rw [if_pos hq,if_pos hq]
        unfold after
        simp only [if_true]
        by_cases hz:endsAt l (skipW l (rdPa l (skipW l (skipW l (rdPa l (rdSign l i).2).2.1+1))).2.1)=true
        ·rw [if_pos hz,if_pos hz];exact ⟨rfl,rfl,fun _=>rfl⟩
        ·rw [if_neg hz,if_neg hz];exact ⟨rfl,rfl,fun h=>by cases h⟩
       ·rw [if_neg hq,if_neg hq]
        unfold after
        rw [if_neg hq]
        exact ⟨rfl,rfl,fun h=>absurd h hq⟩
     ·rw [if_neg hbt,if_neg hbt]
      by_cases hg:(rdPa l (rdSign l i).2).2.1 < skipW l (rdPa l (rdSign l i).2).2.1
      ·rw [if_neg (not_not_intro hg),if_neg (fun h=>h.1 hg)]
       exact set_same l f _ _ (by omega) hkl (skip_stop l _ pp.2)
      ·rw [if_pos hg]
       unfold after
       simp only [if_true]
       rw [skip_stop l _ pp.2]
       by_cases hz:endsAt l (skipW l (rdPa l (rdSign l i).2).2.1)=true
       ·rw [if_pos hz,if_neg (fun h=>h.2 hz)]
        cases f with
        | zero=>omega
        | succ f =>
         have e2:dset l (f+1) (skipW l (rdPa l (rdSign l i).2).2.1) (acc++[⟨signOr (rdSign l i).1,(rdPa l (rdSign l i).2).2.2⟩])=(0,skipW l (rdPa l (rdSign l i).2).2.1,acc++[⟨signOr (rdSign l i).1,(rdPa l (rdSign l i).2).2.2⟩]):=by unfold dset;rw [if_pos hz]
         rw [e2]
         exact ⟨rfl,rfl,fun _=>rfl⟩
       ·rw [if_neg hz,if_pos ⟨hg,hz⟩]
        exact ⟨rfl,rfl,fun h=>by cases h⟩
    ·rw [if_neg hr,if_neg hr]
     unfold after
     rw [if_neg hr]
     exact ⟨rfl,rfl,fun h=>absurd h hr⟩
theorem num_val (l:List UInt8) (i:Nat) (h:(rdNum l i).1=0):0<=(rdNum l i).2.1/\(rdNum l i).2.1<=999999999:=by
 unfold rdNum at h ⊢
 split at h
 ·simp at h
 ·rename_i h1
  split at h
  ·simp at h
  ·rename_i h2
   split at h
   ·simp at h
   ·rename_i h3
    rw [if_neg h1,if_neg h2,if_neg h3]
    simp only []
    have:=val_nn (subT l i (runN isD l i)) (sub_all isD l i)
    omega
theorem opt_ok (c:UInt8) (st:Bool) (l:List UInt8) (i:Nat) (hi:i<=l.length) (h:(optP c st l i).1=0):okParts st (optP c st l i).2.2=true:=by
 unfold optP at h ⊢
 by_cases hc:l[i]?=some c
 ·rw [if_pos hc] at h ⊢
  have hlt:=dot_lt hc
  by_cases h2:(rdParts st l (i+1)).1=0
  ·rw [if_pos h2]
   have:=(parts_take st l _ (i+1) rfl (by omega) h2).2.2
   unfold okParts
   simp only []
   rw [this];simp
  ·rw [if_neg h2] at h;exact absurd h h2
 ·rw [if_neg hc];rfl
theorem tail_ok (l:List UInt8) (i:Nat) (hi:i<=l.length) (h:(tailP l i).1=0):okParts true (tailP l i).2.2.1=true:=by
 unfold tailP at h ⊢
 by_cases h1:(optP 45 true l i).1=0
 ·rw [if_pos h1] at h ⊢
  by_cases h2:(optP 43 false l (optP 45 true l i).2.1).1=0
  ·rw [if_pos h2]
   exact opt_ok 45 true l i hi h1
  ·rw [if_neg h2] at h
   exact absurd h h2
 ·rw [if_neg h1] at h
  exact absurd h h1
theorem pa0_ok:PaOk pa0:=⟨by decide,by decide,by decide,by decide,fun _=>rfl,fun _=>rfl,fun _=>⟨rfl,rfl⟩,rfl⟩
theorem pa2_ok (l:List UInt8) (j:Nat) (a b:Int) (hj:j<=l.length) (ha:0<=a/\a<=999999999) (hb:0<=b/\b<=999999999) (h:(pa2 l j a b).1=0):PaOk (pa2 l j a b).2.2:=by
 have base:PaOk ⟨2,a,b,0,[]⟩:=⟨by simp,ha,hb,by simp,fun h=>by simp at h,fun h=>by simp at h,fun _=>⟨rfl,rfl⟩,rfl⟩
 unfold pa2 at h ⊢
 by_cases h1:l[j]?=some 46
 ·have hl:=dot_lt h1
  rw [if_pos h1] at h ⊢
  by_cases h2:wildAt l (j+1)=true
  ·rw [if_pos h2];exact base
  ·rw [if_neg h2] at h ⊢
   by_cases h3:(rdNum l (j+1)).1=0
   ·have p1:=num_pos l (j+1) (by omega) h3
    have v1:=num_val l (j+1) h3
    rw [if_pos h3] at h ⊢
    unfold pa3 at h ⊢
    by_cases h4:(tailP l (rdNum l (j+1)).2.2).1=0
    ·rw [if_pos h4]
     exact ⟨by simp,ha,hb,v1,fun h=>by simp at h,fun h=>by simp at h,fun h=>by simp at h,tail_ok l _ p1.2 h4⟩
    ·rw [if_neg h4] at h;exact absurd h h4
   ·rw [if_neg h3] at h;exact absurd h h3
 ·rw [if_neg h1];exact base
theorem pa1_ok (l:List UInt8) (j:Nat) (a:Int) (hj:j<=l.length) (ha:0<=a/\a<=999999999) (h:(pa1 l j a).1=0):PaOk (pa1 l j a).2.2:=by
 have base:PaOk ⟨1,a,0,0,[]⟩:=⟨by simp,ha,by simp,by simp,fun h=>by simp at h,fun _=>rfl,fun _=>⟨rfl,rfl⟩,rfl⟩
 unfold pa1 at h ⊢
 by_cases h1:l[j]?=some 46
 ·have hl:=dot_lt h1
  rw [if_pos h1] at h ⊢
  by_cases h2:wildAt l (j+1)=true
  ·rw [if_pos h2];exact base
  ·rw [if_neg h2] at h ⊢
   by_cases h3:(rdNum l (j+1)).1=0
   ·have p1:=num_pos l (j+1) (by omega) h3
    rw [if_pos h3] at h ⊢
    exact pa2_ok l _ a _ p1.2 ha (num_val l (j+1) h3) h
   ·rw [if_neg h3] at h;exact absurd h h3
 ·rw [if_neg h1];exact base
theorem pa_ok (l:List UInt8) (i:Nat) (hi:i<=l.length) (h:(rdPa l i).1=0):PaOk (rdPa l i).2.2:=by
 unfold rdPa at h ⊢
 by_cases h2:wildAt l i=true
 ·rw [if_pos h2];exact pa0_ok
 ·rw [if_neg h2] at h ⊢
  by_cases h3:(rdNum l i).1=0
  ·have p1:=num_pos l i hi h3
   rw [if_pos h3] at h ⊢
   exact pa1_ok l _ _ p1.2 (num_val l i h3) h
  ·rw [if_neg h3] at h;exact absurd h h3
end Go.Proofs.YtonfldbigenfhaaGreatDoor
