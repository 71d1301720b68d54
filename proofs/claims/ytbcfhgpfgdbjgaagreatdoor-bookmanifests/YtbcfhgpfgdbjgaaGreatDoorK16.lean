import Derived.Test.YtbcfhgpfgdbjgaaGreatDoorK10
import Derived.OwnWalk
set_option linter.all false
set_option maxRecDepth 100000
set_option maxHeartbeats 0
open Go.Proofs.Tryz
namespace Go.Proofs.YtbcfhgpfgdbjgaaGreatDoor
open Go.RowKit Go.Shelf
variable{st:Bool}{s:ByteArray}{E:Int}{l:List UInt8}{a b i:Nat}{c:UInt8}{w:World}
def jV(st:Bool)(l:List UInt8)(i:Nat):List UInt8:=if(aX st l i).1=0 then au l i ((aX st l i).2-i) else[]
theorem Xn(st:Bool)(k:Int)(b:Nat)(s:ByteArray)(i:Nat)(w:World)(hi:i<=s.size)(h:RS b s i w)(hs:s.size<=281474976710656)(CS:Calls prog 144 #[.pointer (some ⟨b,0,none⟩),.int .i64 k] w fun e w'=>e=.returned (.int .i64 (aX st s.data.toList i).1)/\RS b s (aX st s.data.toList i).2 w'/\w.grownBy w' (some b)) :
  Calls prog 113 #[.pointer (some ⟨b,0,none⟩),.int .i64 k] w fun e w'=>e=.returned (.tuple #[.string ⟨(jV st s.data.toList i).toArray⟩,.int .i64 (aX st s.data.toList i).1])/\RS b s (aX st s.data.toList i).2 w'/\w.grownBy w' (some b):=by
 have hsl:s.data.toList.length=s.size:=by simp
 have CS:=ae CS;have d1:=h.c1;have hpt:=Ir st s.data.toList _ i rfl (by rw[hsl];exact hi);obtain⟨P,hP⟩:∃P,P=jV st s.data.toList i:=⟨_,rfl⟩;unfold jV at hP;have hP0:jV st s.data.toList i=P:=hP.symm;rw[hP0];obtain⟨E,Q,jK⟩:∃E Q,aX st s.data.toList i=(E,Q):=⟨_,_,rfl⟩;rw[jK]at CS hpt hP;rw[jK];simp only at hpt hP;have HP:=ae hP;have qV:Hd (E=0->i<Q/\Q<=s.size):=fun h=>by have:=hpt h;rw[hsl]at this;exact⟨this.1,this.2.1⟩
 have HS:Hd (s.size<=281474976710656/\s.data.toList.length=s.size):=⟨hs,hsl⟩;clear hP0 jK hpt hP hi h hs hsl
 cases hz:(E==0) with
 |false=>
  have HZ:Hd (P=[]):=by show P=[];rw[HP.o,if_neg (by simpa using hz)]
  go_enter func113,ntmps113;go_wp2_with (go_at_call 144;refine CS.o.mono ?_);rintro e w1 rfl hr1 hg1;have HF:Hd (RS b s Q w1/\w.grownBy w1 (some b)):=⟨hr1,hg1⟩;clear hr1 hg1;go_wp2;refine bodyPost_ret (results_tmp2 rfl _ _ _) rfl ⟨?_,HF.o.1,HF.o.2⟩;rw[HZ.o];rfl
 |true=>
  have hE:E=0:=by simpa using hz
  have hq:=qV.o hE;obtain⟨X,hX⟩:∃X:ByteArray,X=⟨P.toArray⟩:=⟨_,rfl⟩;have wF:P=au s.data.toList i (Q-i):=by rw[HP.o,if_pos hE]
  have sl:∀wx,(Instr.slice 9 (.string s) (some (.int .i64 (i:Int))) (some (.int .i64 (Q:Int))) none).run prog wx=.ok (.string X) wx:=fun wx=>by rw[hX,wF];exact mM s i Q (by omega) hq.2 wx
  have CC:Hd (∀w,Calls prog 123 #[.string X] w fun e w'=>e=.returned (.string X)/\w.grownBy w' none):=fun w=>clone_any X w (by
   rw[hX];show P.toArray.size<=_;have:=tZ s.data.toList i (Q-i) (by have:=HS.o.2;omega);rw[<-wF]at this;have h2:=HS.o.1;simp;omega)
  have HX:=ae hX;subst hE;clear hX wF hq hz qV;go_enter func113,ntmps113;go_wp2_with (go_at_call 144;refine CS.o.mono ?_);rintro e w1 rfl hr1 hg1;have HR1:=ae hr1;have aC:=ae hg1;have f0:=hr1.c0;have f1:=hr1.c1;clear hr1 hg1;go_wp2
  go_region_held3 (fun w'=>w'.cell? ⟨b,0,none⟩=some (.string s)/\w'.cell? ⟨b,1,none⟩=some (.int .i64 (Q:Int))) ((first|go_keep|(refine⟨?_,?_⟩<;>(refine World.grownBy.cell (by assumption) ?_ (by simp);assumption)))) (first|(go_at_call 123;refine(CC.o _).mono ?_;rintro e w2 ⟨rfl,hg2⟩))
  have HF:Hd (RS b s Q w2/\w.grownBy w2 (some b)):=⟨HR1.o.grow (jJ hg2),ak aC.o (iy (jJ hg2) _)⟩;clear hg2;go_wp2;refine bodyPost_ret (results_tmp2 rfl _ _ _) rfl ⟨?_,HF.o.1,HF.o.2⟩;rw[<-HX.o];rfl
theorem ae0(b:Nat)(s:ByteArray)(i:Nat)(w:World)(hi:i<=s.size)(h:RS b s i w)(hs:s.size<=281474976710656) :
  Calls prog 113 #[.pointer (some ⟨b,0,none⟩),.int .i64 0] w fun e w'=>e=.returned (.tuple #[.string ⟨(jV true s.data.toList i).toArray⟩,.int .i64 (aX true s.data.toList i).1])/\RS b s (aX true s.data.toList i).2 w'/\w.grownBy w' (some b):=Xn true 0 b s i w hi h hs (TW b s i w hi h (by omega))
theorem ae1(b:Nat)(s:ByteArray)(i:Nat)(w:World)(hi:i<=s.size)(h:RS b s i w)(hs:s.size<=281474976710656) :
  Calls prog 113 #[.pointer (some ⟨b,0,none⟩),.int .i64 1] w fun e w'=>e=.returned (.tuple #[.string ⟨(jV false s.data.toList i).toArray⟩,.int .i64 (aX false s.data.toList i).1])/\RS b s (aX false s.data.toList i).2 w'/\w.grownBy w' (some b):=Xn false 1 b s i w hi h hs (Ua b s i w hi h (by omega))
def aV(l:List UInt8)(i:Nat):Int × Nat × List UInt8 × List UInt8 :=
 if(bC 45 true l i).1=0 then
  (if(bC 43 false l (bC 45 true l i).2.1).1=0 then(0,(bC 43 false l (bC 45 true l i).2.1).2.1,(bC 45 true l i).2.2,(bC 43 false l (bC 45 true l i).2.1).2.2)
  else((bC 43 false l (bC 45 true l i).2.1).1,(bC 43 false l (bC 45 true l i).2.1).2.1,[],[]))
 else((bC 45 true l i).1,(bC 45 true l i).2.1,[],[])
theorem zK(h:l[i]?=some c):bC c st l i=((aX st l (i+1)).1,(aX st l (i+1)).2,jV st l (i+1)):=by
 unfold bC jV;rw[if_pos h]
 by_cases h0:(aX st l (i+1)).1=0
 ·rw[if_pos h0,if_pos h0,h0]
 ·rw[if_neg h0,if_neg h0]
theorem zL(h:¬l[i]?=some c):bC c st l i=(0,i,[]):=by unfold bC;rw[if_neg h]
theorem Xo(hi:i<=l.length)(h:(aX st l i).1=0):(aX st l i).2<=l.length:=(Ir st l _ i rfl hi h).2.1
theorem OO(hi:i<=l.length)(h:(bC c st l i).1=0):(bC c st l i).2.1<=l.length:=by
 by_cases hc:l[i]?=some c
 ·rw[zK hc]at h ⊢;exact Xo (by have:=(List.getElem?_eq_some_iff.1 hc).1;omega) h
 ·rw[zL hc];exact hi
theorem Xp(b:Nat)(s:ByteArray)(i:Nat)(w:World)(hi:i<=s.size)(h:RS b s i w)(hs:s.size<=281474976710656) :
  Calls prog 82 #[.pointer (some ⟨b,0,none⟩)] w fun e w'=>e=.returned (.tuple #[.string ⟨(aV s.data.toList i).2.2.1.toArray⟩,.string ⟨(aV s.data.toList i).2.2.2.toArray⟩,.int .i64 (aV s.data.toList i).1])/\RS b s (aV s.data.toList i).2.1 w'/\w.grownBy w' (some b):=by
 have dG:Hd (s.data.toList.length=s.size):=by show s.data.toList.length=s.size;simp
 have TY:=ae (fun(c:UInt8) i w (hc:s.data.toList[i]?=some c) (h:RS b s i w)=>uj b s i c w hc h (by omega));have TN:Hd (∀(c:UInt8) i w,i<=s.size->¬s.data.toList[i]?=some c->RS b s i w->Calls prog 109 #[.pointer (some ⟨b,0,none⟩),.string ⟨#[c]⟩] w fun e w'=>e=.returned (.bool false)/\RS b s i w'/\w.grownBy w' (some b)):=fun c i w hi hc h=>pJ b s i c w hi hc h (by omega)
 have PP:=ae (fun i w (hi:i<=s.size) (h:RS b s i w)=>ae0 b s i w hi h (by omega));have PB:=ae (fun i w (hi:i<=s.size) (h:RS b s i w)=>ae1 b s i w hi h (by omega));have HI:=ae h;have sG:=ae hi;obtain⟨E,J,P,B,hT⟩:∃E J P B,aV s.data.toList i=(E,J,P,B):=⟨_,_,_,_,rfl⟩;rw[hT];have HT:=ae hT;clear hT h hi hs
 cases hc1:decide (s.data.toList[i]?=some 45) with
 |false=>
  have hc':=of_decide_eq_false hc1;have lT:Hd (bC 45 true s.data.toList (i)=(0,i,[])):=zL hc';have CT:=ae (TN.o 45 (i) w sG.o hc' HI.o);have HJ:=ae sG.o;clear hc1 hc';go_enter func82,ntmps82;go_wp2_with (go_at_call 109;refine CT.o.mono ?_);rintro e u1 ⟨rfl,hr,hg⟩;have HR1:=ae hr;have aC:=ae hg;clear hr hg
  cases hc2:decide (s.data.toList[i]?=some 43) with
  |false=>
   have hc':=of_decide_eq_false hc2;have kG:Hd (bC 43 false s.data.toList (i)=(0,i,[])):=zL hc';have CT:=ae (TN.o 43 (i) u1 HJ.o hc' HR1.o);clear hc2 hc';go_wp2_with (go_at_call 109;refine CT.o.mono ?_);rintro e v1 ⟨rfl,hr,hg⟩;have HF:Hd (RS b s (i) v1/\w.grownBy v1 (some b)):=⟨hr,ak aC.o hg⟩;clear hr hg;have HV:Hd (E=0/\J=i/\P=[]/\B=[]):=by
    have e:=HT.o;unfold aV at e;rw[lT.o]at e;simp only[if_true]at e;rw[kG.o]at e;simp only[if_true]at e;exact⟨(congrArg Prod.fst e).symm,(congrArg (·.2.1) e).symm,(congrArg (·.2.2.1) e).symm,(congrArg (·.2.2.2) e).symm⟩
   go_wp2;refine bodyPost_ret (results_tmp3 rfl _ _ _) rfl ⟨?_,by rw[HV.o.2.1];exact HF.o.1,HF.o.2⟩;rw[HV.o.1,HV.o.2.2.1,HV.o.2.2.2];rfl
  |true=>
   have hc':=of_decide_eq_true hc2;have hO2:bC 43 false s.data.toList (i)=((aX false s.data.toList (i+1)).1,(aX false s.data.toList (i+1)).2,jV false s.data.toList (i+1)):=zK hc';have CT:=ae (TY.o 43 (i) u1 hc' HR1.o);have HJ2:Hd (i+1<=s.size):=by have:=(List.getElem?_eq_some_iff.1 hc').1;rw[dG.o]at this;exact this
   have CB:=ae (fun w (h:RS b s (i+1) w)=>PB.o (i+1) w HJ2.o h);obtain⟨E2,J2,hE2⟩:∃E J,aX false s.data.toList (i+1)=(E,J):=⟨_,_,rfl⟩;obtain⟨P2,hP2⟩:=zN (jV false s.data.toList (i+1));have wF:¬E2=0->P2=[]:=fun h=>by rw[<-hP2];unfold jV;rw[hE2,if_neg h]
   rw[hE2,hP2]at CB hO2;simp only at CB hO2;have kG:=ae hO2;have Cf:=ae wF;clear hc2 hc' hE2 hP2 hO2 wF;go_wp2_with (go_at_call 109;refine CT.o.mono ?_);rintro e v1 ⟨rfl,hr,hg⟩;have OQ:=ae hr;have OU:=ae (ak aC.o hg);clear hr hg;have OW:=ae (CB.o v1 OQ.o);go_wp2_with (go_at_call 113;refine OW.o.mono ?_);rintro e v2 ⟨rfl,hr,hg⟩;have HF:Hd (RS b s J2 v2/\w.grownBy v2 (some b)):=⟨hr,ak OU.o hg⟩;clear hr hg
   cases hz2:(E2 == 0) with
   |false=>
    have h0:¬E2=0:=by simpa using hz2
    have HV:Hd (E=E2/\J=J2/\P=[]/\B=[]):=by
     have e:=HT.o;unfold aV at e;rw[lT.o]at e;simp only[if_true]at e;rw[kG.o]at e;simp only[if_neg h0]at e;exact⟨(congrArg Prod.fst e).symm,(congrArg (·.2.1) e).symm,(congrArg (·.2.2.1) e).symm,(congrArg (·.2.2.2) e).symm⟩
    clear h0;go_wp2;refine bodyPost_ret (results_tmp3 rfl _ _ _) rfl ⟨?_,by rw[HV.o.2.1];exact HF.o.1,HF.o.2⟩;rw[HV.o.1,HV.o.2.2.1,HV.o.2.2.2];rfl
   |true=>
    have h0:E2=0:=by simpa using hz2
    subst h0;have HV:Hd (E=0/\J=J2/\P=[]/\B=P2):=by
     have e:=HT.o;unfold aV at e;rw[lT.o]at e;simp only[if_true]at e;rw[kG.o]at e;simp only[if_true]at e;exact⟨(congrArg Prod.fst e).symm,(congrArg (·.2.1) e).symm,(congrArg (·.2.2.1) e).symm,(congrArg (·.2.2.2) e).symm⟩
    go_wp2;refine bodyPost_ret (results_tmp3 rfl _ _ _) rfl ⟨?_,by rw[HV.o.2.1];exact HF.o.1,HF.o.2⟩;rw[HV.o.1,HV.o.2.2.1,HV.o.2.2.2];rfl
 |true=>
  have hc':=of_decide_eq_true hc1;have Jy:bC 45 true s.data.toList (i)=((aX true s.data.toList (i+1)).1,(aX true s.data.toList (i+1)).2,jV true s.data.toList (i+1)):=zK hc';have CT:=ae (TY.o 45 (i) w hc' HI.o);have oq:Hd (i+1<=s.size):=by have:=(List.getElem?_eq_some_iff.1 hc').1;rw[dG.o]at this;exact this
  have CA:=ae (fun w (h:RS b s (i+1) w)=>PP.o (i+1) w oq.o h);have OX:Hd ((aX true s.data.toList (i+1)).1=0->(aX true s.data.toList (i+1)).2<=s.size):=fun h=>by have:=Xo (st:=true) (l:=s.data.toList) (i:=i+1) (by rw[dG.o];exact oq.o) h;rw[dG.o]at this;exact this
  obtain⟨E1,J1,hE1⟩:∃E J,aX true s.data.toList (i+1)=(E,J):=⟨_,_,rfl⟩;obtain⟨P1,hP1⟩:=zN (jV true s.data.toList (i+1));rw[hE1,hP1]at CA Jy;rw[hE1]at OX;simp only at CA Jy OX;have lT:=ae Jy;clear hc1 hc' hE1 hP1 Jy;go_enter func82,ntmps82;go_wp2_with (go_at_call 109;refine CT.o.mono ?_);rintro e u1 ⟨rfl,hr,hg⟩;have OY:=ae hr;have OZ:=ae hg;clear hr hg;have CAu:=ae (CA.o u1 OY.o);go_wp2_with (go_at_call 113;refine CAu.o.mono ?_);rintro e u2 ⟨rfl,hr,hg⟩;have HR1:=ae hr;have aC:=ae (ak OZ.o hg);clear hr hg
  cases hz1:(E1 == 0) with
  |false=>
   have h0:¬E1=0:=by simpa using hz1
   have HV:Hd (E=E1/\J=J1/\P=[]/\B=[]):=by
    have e:=HT.o;unfold aV at e;rw[lT.o]at e;simp only[if_neg h0]at e;exact⟨(congrArg Prod.fst e).symm,(congrArg (·.2.1) e).symm,(congrArg (·.2.2.1) e).symm,(congrArg (·.2.2.2) e).symm⟩
   clear h0;go_wp2;refine bodyPost_ret (results_tmp3 rfl _ _ _) rfl ⟨?_,by rw[HV.o.2.1];exact HR1.o,aC.o⟩;rw[HV.o.1,HV.o.2.2.1,HV.o.2.2.2];rfl
  |true=>
   have h0:E1=0:=by simpa using hz1
   subst h0;have HJ:=ae (OX.o rfl);clear hz1
   cases hc2:decide (s.data.toList[J1]?=some 43) with
   |false=>
    have hc':=of_decide_eq_false hc2;have kG:Hd (bC 43 false s.data.toList (J1)=(0,J1,[])):=zL hc';have CT:=ae (TN.o 43 (J1) u2 HJ.o hc' HR1.o);clear hc2 hc';go_wp2_with (go_at_call 109;refine CT.o.mono ?_);rintro e v1 ⟨rfl,hr,hg⟩;have HF:Hd (RS b s (J1) v1/\w.grownBy v1 (some b)):=⟨hr,ak aC.o hg⟩;clear hr hg;have HV:Hd (E=0/\J=J1/\P=P1/\B=[]):=by
     have e:=HT.o;unfold aV at e;rw[lT.o]at e;simp only[if_true]at e;rw[kG.o]at e;simp only[if_true]at e;exact⟨(congrArg Prod.fst e).symm,(congrArg (·.2.1) e).symm,(congrArg (·.2.2.1) e).symm,(congrArg (·.2.2.2) e).symm⟩
    go_wp2;refine bodyPost_ret (results_tmp3 rfl _ _ _) rfl ⟨?_,by rw[HV.o.2.1];exact HF.o.1,HF.o.2⟩;rw[HV.o.1,HV.o.2.2.1,HV.o.2.2.2];rfl
   |true=>
    have hc':=of_decide_eq_true hc2;have hO2:bC 43 false s.data.toList (J1)=((aX false s.data.toList (J1+1)).1,(aX false s.data.toList (J1+1)).2,jV false s.data.toList (J1+1)):=zK hc';have CT:=ae (TY.o 43 (J1) u2 hc' HR1.o);have HJ2:Hd (J1+1<=s.size):=by have:=(List.getElem?_eq_some_iff.1 hc').1;rw[dG.o]at this;exact this
    have CB:=ae (fun w (h:RS b s (J1+1) w)=>PB.o (J1+1) w HJ2.o h);obtain⟨E2,J2,hE2⟩:∃E J,aX false s.data.toList (J1+1)=(E,J):=⟨_,_,rfl⟩;obtain⟨P2,hP2⟩:=zN (jV false s.data.toList (J1+1));have wF:¬E2=0->P2=[]:=fun h=>by rw[<-hP2];unfold jV;rw[hE2,if_neg h]
    rw[hE2,hP2]at CB hO2;simp only at CB hO2;have kG:=ae hO2;have Cf:=ae wF;clear hc2 hc' hE2 hP2 hO2 wF;go_wp2_with (go_at_call 109;refine CT.o.mono ?_);rintro e v1 ⟨rfl,hr,hg⟩;have OQ:=ae hr;have OU:=ae (ak aC.o hg);clear hr hg;have OW:=ae (CB.o v1 OQ.o);go_wp2_with (go_at_call 113;refine OW.o.mono ?_);rintro e v2 ⟨rfl,hr,hg⟩;have HF:Hd (RS b s J2 v2/\w.grownBy v2 (some b)):=⟨hr,ak OU.o hg⟩;clear hr hg
    cases hz2:(E2 == 0) with
    |false=>
     have h0:¬E2=0:=by simpa using hz2
     have HV:Hd (E=E2/\J=J2/\P=[]/\B=[]):=by
      have e:=HT.o;unfold aV at e;rw[lT.o]at e;simp only[if_true]at e;rw[kG.o]at e;simp only[if_neg h0]at e;exact⟨(congrArg Prod.fst e).symm,(congrArg (·.2.1) e).symm,(congrArg (·.2.2.1) e).symm,(congrArg (·.2.2.2) e).symm⟩
     clear h0;go_wp2;refine bodyPost_ret (results_tmp3 rfl _ _ _) rfl ⟨?_,by rw[HV.o.2.1];exact HF.o.1,HF.o.2⟩;rw[HV.o.1,HV.o.2.2.1,HV.o.2.2.2];rfl
    |true=>
     have h0:E2=0:=by simpa using hz2
     subst h0;have HV:Hd (E=0/\J=J2/\P=P1/\B=P2):=by
      have e:=HT.o;unfold aV at e;rw[lT.o]at e;simp only[if_true]at e;rw[kG.o]at e;simp only[if_true]at e;exact⟨(congrArg Prod.fst e).symm,(congrArg (·.2.1) e).symm,(congrArg (·.2.2.1) e).symm,(congrArg (·.2.2.2) e).symm⟩
     go_wp2;refine bodyPost_ret (results_tmp3 rfl _ _ _) rfl ⟨?_,by rw[HV.o.2.1];exact HF.o.1,HF.o.2⟩;rw[HV.o.1,HV.o.2.2.1,HV.o.2.2.2];rfl
def Xq(b:Nat)(s:ByteArray)(w:World)(e:Ending)(w':World):Prop :=
 ∃(x1 x2 x3:Int) (x4 x5:List UInt8) (E:Int) (j:Nat),e=.returned (.tuple #[.agg #[.int .i64 x1,.int .i64 x2,.int .i64 x3,.string ⟨x4.toArray⟩,.string ⟨x5.toArray⟩],.int .i64 E]) ∧
  RS b s j w'/\w.grownBy w' (some b)/\E=(eU s.data.toList).1/\(E=0->(eU s.data.toList).2.2=⟨x1,x2,x3,x4,x5⟩)/\(E≠0->(eU s.data.toList).2.1=j)
theorem ae2(h:RS b s i w)(o1 o2:Obj):RS b s i ((w.alloc o1).alloc o2):=h.grow (aH (aH (ax w none) o1) o2)
theorem Jz(w:World)(o1 o2:Obj):((w.alloc o1).alloc o2).heap[w.heap.size+1]?=some o2:=by
 have:=heap_alloc_new (w.alloc o1) o2;simpa using this
theorem ae3{A:Nat}{j:Nat}(h:RS b s j w)(hn:b≠A)(y1 y2 y3:Int)(x4 x5:ByteArray):RS b s j (vS w A y1 y2 y3 x4 x5):=((((h.other hn _ _).other hn _ _).other hn _ _).other hn _ _).other hn _ _
theorem Xr(l:List UInt8):eU l=if(bZ l).1=0 then(if(aV l (bZ l).2.1).1=0 then(if(aV l (bZ l).2.1).2.1<l.length then(2,(aV l (bZ l).2.1).2.1,zeroV) else(0,0,⟨(bZ l).2.2.1,(bZ l).2.2.2.1,(bZ l).2.2.2.2,(aV l (bZ l).2.1).2.2.1,(aV l (bZ l).2.1).2.2.2⟩)) else((aV l (bZ l).2.1).1,(aV l (bZ l).2.1).2.1,zeroV)) else((bZ l).1,(bZ l).2.1,zeroV):=by
 unfold eU aV
 by_cases h1:(bZ l).1=0
 ·rw[if_pos h1,if_pos h1]
  by_cases h2:(bC 45 true l (bZ l).2.1).1=0
  ·simp only[if_pos h2]
   by_cases h3:(bC 43 false l (bC 45 true l (bZ l).2.1).2.1).1=0
   ·simp only[if_pos h3,if_true]
   ·simp only[if_neg h3]
  ·simp only[if_neg h2]
 ·rw[if_neg h1,if_neg h1]
theorem ae4(b:Nat)(s:ByteArray)(w:World)(h:RS b s 0 w)(hs:s.size<=100) :
  Calls prog 54 #[.pointer (some ⟨b,0,none⟩)] w (Xq b s w):=by
 have HB:Hd (b<w.heap.size):=by obtain⟨t,h⟩:=h;exact(bJ h)
 have HI:=ae h;have CN:=ae (fun v w (h1:RS b s 0 w) (h2:VB v 0 0 0 w) (h3:b≠v)=>ac8 b v s w h1 h2 h3 (by omega));have JA:=ae (fun i w (hi:i<=s.size) (h:RS b s i w)=>Xp b s i w hi h (by omega));have dG:Hd (s.data.toList.length=s.size):=by show s.data.toList.length=s.size;simp
 clear h hs;have sH:=Xr s.data.toList;obtain⟨E0,J0,X1,X2,X3,hN⟩:∃E J A B C,bZ s.data.toList=(E,J,A,B,C):=⟨_,_,_,_,_,rfl⟩;obtain⟨E1,J1,P1,B1,hT⟩:∃E J P B,aV s.data.toList J0=(E,J,P,B):=⟨_,_,_,_,rfl⟩;rw[hN]at CN sH;simp only at CN sH;rw[hT]at sH;simp only at sH;have qW:Hd (E0=0->J0<=s.size):=fun h0=>by
  have:=(aa8 s.data.toList (by rw[hN];exact h0)).1;rw[hN,dG.o]at this;exact this
 have oq:Hd (J0<=s.size->E1=0->J1<=s.size):=fun hj h0=>by
  rw[<-dG.o]at hj ⊢;unfold aV at hT
  by_cases h2:(bC 45 true s.data.toList J0).1=0
  ·have l1:=OO hj h2;rw[if_pos h2]at hT
   by_cases h3:(bC 43 false s.data.toList (bC 45 true s.data.toList J0).2.1).1=0
   ·rw[if_pos h3]at hT;have l2:=OO l1 h3;have e:=congrArg (·.2.1) hT;simp only at e;rw[<-e];exact l2
   ·rw[if_neg h3]at hT;exact absurd ((congrArg Prod.fst hT).trans h0) h3
  ·rw[if_neg h2]at hT;exact absurd ((congrArg Prod.fst hT).trans h0) h2
 have CT0:Hd (∀w,J0<=s.size->RS b s J0 w->Calls prog 82 #[.pointer (some ⟨b,0,none⟩)] w fun e w'=>e=.returned (.tuple #[.string ⟨P1.toArray⟩,.string ⟨B1.toArray⟩,.int .i64 E1])/\RS b s J1 w'/\w.grownBy w' (some b)):=fun w hj h=>by
  have:=JA.o J0 w hj h;rw[hT]at this;exact this
 have HV:=ae sH;clear hN hT sH JA;go_enter func54,ntmps54;go_wp2_with (go_at_call 81;refine(CN.o _ _ (ae2 HI.o _ _) (Jz w _ _) (by have:=HB.o;omega)).mono ?_);rintro e w1 ⟨rfl,hr1,⟨y1,y2,y3,hvb,hy⟩,hg1⟩;obtain⟨A,hA⟩:=zN (w.heap.size);have pW:Hd (VX A 0 0 0 ⟨#[]⟩ ⟨#[]⟩ w1):=by
  show w1.heap[A]?=_;rw[<-hA,hg1.block w.heap.size (by simp;omega) (by have:=HB.o;omega) (by omega),Lib.alloc_old _ _ _ (by simp)];exact heap_alloc_new w _
 have HG:Hd (w.grownBy w1 (some b)):=by
  refine⟨hg1.os,hg1.tape,hg1.output,by have:=hg1.size;simp at this;omega,fun k hk hn=>?_⟩;rw[hg1.block k (by simp;omega) (by simpa using hn) (by omega),Lib.alloc_old _ _ _ (by simp;omega),Lib.alloc_old _ _ _ hk]
 have HR1:=ae hr1;have HY:=ae hy;have HX:Hd (VX (A+1) y1 y2 y3 ⟨#[]⟩ ⟨#[]⟩ w1):=by rw[<-hA];exact hvb
 have zM:Hd (b<A):=by rw[<-hA];exact HB.o
 have qU:=ae (Nat.le_of_eq hA);rw[hA];clear hA hr1 hvb hy hg1;have END:Hd (∀(W:World) (j:Nat) (z1 z2 z3:Int) (x4 x5:List UInt8) (E:Int),RS b s j W->VX A 0 0 0 ⟨#[]⟩ ⟨#[]⟩ W->w.grownBy W (some b)->E=(eU s.data.toList).1->(E=0->(eU s.data.toList).2.2=⟨z1,z2,z3,x4,x5⟩)->(E≠0->(eU s.data.toList).2.1=j) →
   VX A z1 z2 z3 ⟨x4.toArray⟩ ⟨x5.toArray⟩ (vS W A z1 z2 z3 ⟨x4.toArray⟩ ⟨x5.toArray⟩)/\Xq b s w (.returned (.tuple #[.agg #[.int .i64 z1,.int .i64 z2,.int .i64 z3,.string ⟨x4.toArray⟩,.string ⟨x5.toArray⟩],.int .i64 E])) (vS W A z1 z2 z3 ⟨x4.toArray⟩ ⟨x5.toArray⟩)):=by
  intro W j z1 z2 z3 x4 x5 E h1 h2 h3 h4 h5 h6;exact⟨IM h2 _ _ _ _ _,z1,z2,z3,x4,x5,E,j,rfl,ae3 h1 (by have:=zM.o;omega) _ _ _ _ _,abS h3 qU.o _ _ _ _ _,h4,h5,h6⟩
 cases hz:(E0 == 0) with
 |false=>
  obtain⟨v0,v1,v2,v3,v4⟩:=HX.o.cells;obtain⟨ca0,ca1,ca2,ca3,ca4⟩:=pW.o.cells;have ra:=pW.o.f;have HE:Hd (E0=(eU s.data.toList).1/\(eU s.data.toList).2.1=J0/\E0≠0):=by
   have h0:¬E0=0:=by simpa using hz
   refine⟨?_,?_,h0⟩<;>(rw[HV.o,if_neg h0])
  go_wp2;obtain⟨hrow,hpost⟩:=END.o w1 J0 0 0 0 [] [] E0 HR1.o pW.o HG.o HE.o.1 (fun h=>absurd h HE.o.2.2) (fun _=>HE.o.2.1);exact bodyPost_ret (Bf (p:=2) (u:=3) rfl _ _ A _ _ (0,0) _ rfl hrow underlying84 rfl (by kernel_rfl)) rfl hpost
 |true=>
  have hE:E0=0:=by simpa using hz
  subst hE;clear hz;have hj0:=qW.o rfl;have mi:Hd (eU s.data.toList=if E1=0 then(if J1<s.data.toList.length then(2,J1,zeroV) else(0,0,⟨X1,X2,X3,P1,B1⟩)) else(E1,J1,zeroV)):=by
   show eU s.data.toList=_;rw[HV.o,if_pos rfl]
  have HY2:Hd (y1=X1/\y2=X2/\y3=X3):=by
   have hy:=HY.o rfl;simp only[Prod.mk.injEq]at hy;exact hy
  clear HV HY;have CTw:=ae (CT0.o w1 hj0 HR1.o);have HJs:=ae (oq.o hj0);clear hj0;go_wp2_with (first|(go_at_call 82;refine CTw.o.mono ?_));rintro e u1 ⟨rfl,hr,hg⟩;have OY:=ae hr;have O0:=ae (HX.o.grow hg (by have:=zM.o;omega));have O3:=ae (pW.o.grow hg (by have:=zM.o;omega));have OZ:=ae (ak HG.o hg);clear hr hg;obtain⟨v0,v1,v2,v3,v4⟩:=O0.o.cells;have rv:=O0.o.f;obtain⟨ca0,ca1,ca2,ca3,ca4⟩:=O3.o.cells;have ra:=O3.o.f;obtain⟨U,hU⟩:=zN ((u1.setCell ⟨A+1,3,none⟩ (.string ⟨P1.toArray⟩)).setCell ⟨A+1,4,none⟩ (.string ⟨B1.toArray⟩));have JB:Hd (RS b s J1 U):=by
   show RS b s J1 U;rw[<-hU];exact(OY.o.other (by have:=zM.o;omega) _ _).other (by have:=zM.o;omega) _ _
  have HXU:Hd (VX (A+1) y1 y2 y3 ⟨P1.toArray⟩ ⟨B1.toArray⟩ U):=by
   show VX _ _ _ _ _ _ U;rw[<-hU];exact(O0.o.set3 _).set4 _
  have O4:Hd (VX A 0 0 0 ⟨#[]⟩ ⟨#[]⟩ U):=by
   show VX _ _ _ _ _ _ U;rw[<-hU];exact(O3.o.other (by omega) _ _).other (by omega) _ _
  have FM:Hd (w.grownBy U (some b)):=by
   show w.grownBy U (some b);have:=qU.o;rw[<-hU];exact dQ (dQ OZ.o (by omega) _ _) (by omega) _ _
  have CE:Hd (Calls prog 83 #[.pointer (some ⟨b,0,none⟩)] ((u1.setCell ⟨A+1,3,none⟩ (.string ⟨P1.toArray⟩)).setCell ⟨A+1,4,none⟩ (.string ⟨B1.toArray⟩)) fun e w'=>e=.returned (.bool (decide (J1=s.size)))/\∃n,w'=U.drewN n):=by
   show Calls _ _ _ _ _;rw[hU];exact IL b s J1 U JB.o
  have HU:=ae hU;clear hU
  cases hz1:(E1 == 0) with
  |false=>
   have HE:Hd (E1=(eU s.data.toList).1/\(eU s.data.toList).2.1=J1/\E1≠0):=by
    have h0:¬E1=0:=by simpa using hz1
    refine⟨?_,?_,h0⟩<;>(rw[mi.o,if_neg h0])
   go_wp2;obtain⟨hrow,hpost⟩:=END.o U J1 0 0 0 [] [] E1 JB.o O4.o FM.o HE.o.1 (fun h=>absurd h HE.o.2.2) (fun _=>HE.o.2.1);rw[HU.o];exact bodyPost_ret (Bf (p:=2) (u:=3) rfl _ _ A _ _ (0,0) _ rfl hrow underlying84 rfl (by kernel_rfl)) rfl hpost
  |true=>
   have h0:E1=0:=by simpa using hz1
   subst h0;clear hz1;have hj:=HJs.o rfl
   cases hJ:decide (J1=s.size) with
   |false=>
    rw[hJ]at CE;have HE:Hd ((2:Int)=(eU s.data.toList).1/\(eU s.data.toList).2.1=J1):=by
     have h1:J1<s.data.toList.length:=by rw[dG.o];have:=of_decide_eq_false hJ;omega
     refine⟨?_,?_⟩<;>(rw[mi.o,if_pos rfl,if_pos h1])
    clear hj hJ;go_wp2_with (go_at_call 83;refine CE.o.mono ?_);rintro e u2 ⟨rfl,n,hn⟩;have HR2:Hd (RS b s J1 u2):=by show RS b s J1 u2;rw[hn];exact JB.o.drew n
    have HA2:Hd (VX A 0 0 0 ⟨#[]⟩ ⟨#[]⟩ u2):=by show VX _ _ _ _ _ _ u2;rw[hn];exact O4.o
    have HG2:Hd (w.grownBy u2 (some b)):=by show w.grownBy u2 (some b);rw[hn];exact az FM.o n
    clear hn v0 v1 v2 v3 v4 rv ca0 ca1 ca2 ca3 ca4 ra;obtain⟨ca0,ca1,ca2,ca3,ca4⟩:=HA2.o.cells;have ra:=HA2.o.f;go_wp2;obtain⟨hrow,hpost⟩:=END.o u2 J1 0 0 0 [] [] 2 HR2.o HA2.o HG2.o HE.o.1 (fun h=>absurd h (by decide)) (fun _=>HE.o.2);exact bodyPost_ret (Bf (p:=2) (u:=3) rfl _ _ A _ _ (0,0) _ rfl hrow underlying84 rfl (by kernel_rfl)) rfl hpost
   |true=>
    rw[hJ]at CE;have HE:Hd ((0:Int)=(eU s.data.toList).1/\(eU s.data.toList).2.2=⟨y1,y2,y3,P1,B1⟩):=by
     have h1:¬J1<s.data.toList.length:=by rw[dG.o];have:=of_decide_eq_true hJ;omega
     obtain⟨e1,e2,e3⟩:=HY2.o;refine⟨?_,?_⟩<;>(rw[mi.o,if_pos rfl,if_neg h1])
     rw[e1,e2,e3]
    clear hj hJ;go_wp2_with (go_at_call 83;refine CE.o.mono ?_);rintro e u2 ⟨rfl,n,hn⟩;have HR2:Hd (RS b s J1 u2):=by show RS b s J1 u2;rw[hn];exact JB.o.drew n
    have HA2:Hd (VX A 0 0 0 ⟨#[]⟩ ⟨#[]⟩ u2):=by show VX _ _ _ _ _ _ u2;rw[hn];exact O4.o
    have HX2:Hd (VX (A+1) y1 y2 y3 ⟨P1.toArray⟩ ⟨B1.toArray⟩ u2):=by show VX _ _ _ _ _ _ u2;rw[hn];exact HXU.o
    have HG2:Hd (w.grownBy u2 (some b)):=by show w.grownBy u2 (some b);rw[hn];exact az FM.o n
    clear hn v0 v1 v2 v3 v4 rv ca0 ca1 ca2 ca3 ca4 ra;obtain⟨ca0,ca1,ca2,ca3,ca4⟩:=HA2.o.cells;have ra:=HA2.o.f;obtain⟨v0,v1,v2,v3,v4⟩:=HX2.o.cells;go_wp2;obtain⟨hrow,hpost⟩:=END.o u2 J1 y1 y2 y3 P1 B1 0 HR2.o HA2.o HG2.o HE.o.1 (fun _=>HE.o.2) (fun h=>absurd rfl h);exact bodyPost_ret (Bf (p:=2) (u:=3) rfl _ _ A _ _ (0,0) _ rfl hrow underlying84 rfl (by kernel_rfl)) rfl hpost
theorem ae5(l:List UInt8)(h:¬(eU l).1=0):(eU l).2.2=zeroV:=by
 unfold eU at h ⊢
 repeat' split
 all_goals first|rfl|(exfalso;simp_all)
theorem ae6(l:List UInt8)(h:(eU l).1=0):(eU l).2.1=0:=by
 unfold eU at h ⊢
 repeat' split
 all_goals first|rfl|(exfalso;simp_all)
def Xt(v:Vv):Value:=.agg #[.int .i64 v.major,.int .i64 v.minor,.int .i64 v.patch,.string ⟨v.pre.toArray⟩,.string ⟨v.build.toArray⟩]
theorem parse_any(s:ByteArray)(w:World)(hs:s.size<2 ^ 62) :
  Calls prog 37 #[.string s] w fun e w'=>e=.returned (.tuple #[Xt (kU s.data.toList).2.2,.int .i64 (kU s.data.toList).1,.int .i64 ((kU s.data.toList).2.1:Nat)])/\w.grownBy w' none:=by
 by_cases h100:100<s.size
 ·have hp:kU s.data.toList=(1,0,zeroV):=by unfold kU;rw[if_pos (by simpa using h100)]
  rw[hp];clear hp;go_enter func37,ntmps37;go_wp2;exact bodyPost_ret (jS (p:=2) (u:=3) (r:=4) rfl _ _ w.heap.size _ _ (0,0) _ rfl (heap_alloc_new w _) underlying84 rfl (by kernel_rfl)) rfl ⟨rfl,aH (ax w none) _⟩
 ·have hp:kU s.data.toList=eU s.data.toList:=by unfold kU;rw[if_neg (by simpa using h100)]
  rw[hp];have CV:=ae (fun b w (h:RS b s 0 w)=>ae4 b s w h (by omega));clear hp hs;go_enter func37,ntmps37;go_wp2_with (go_at_call 54;refine(CV.o _ _ ⟨_,Jz w _ _⟩).mono ?_);rintro e w1 ⟨x1,x2,x3,x4,x5,E,j,rfl,hr,hg,hE,hok,herr⟩;obtain⟨A,hA⟩:=zN (w.heap.size);have pW:Hd (VX A 0 0 0 ⟨#[]⟩ ⟨#[]⟩ w1):=by
   show w1.heap[A]?=_;rw[<-hA,hg.block w.heap.size (by simp;omega) (by simp),Lib.alloc_old _ _ _ (by simp)];exact heap_alloc_new w _
  have HG:Hd (w.grownBy w1 none):=by
   refine⟨hg.os,hg.tape,hg.output,by have:=hg.size;simp at this;omega,fun k hk _=>?_⟩;rw[hg.block k (by simp;omega) (by simp;omega),Lib.alloc_old _ _ _ (by simp;omega),Lib.alloc_old _ _ _ hk]
  have qU:=ae (Nat.le_of_eq hA);have HE:Hd (E=(eU s.data.toList).1/\(E=0->(eU s.data.toList).2.2=⟨x1,x2,x3,x4,x5⟩)/\(E≠0->(eU s.data.toList).2.1=j)):=⟨hE,hok,herr⟩;rw[hA]at hr;have HR:=ae hr;rw[hA];clear hA hr hg hE hok herr;obtain⟨ca0,ca1,ca2,ca3,ca4⟩:=pW.o.cells;have ra:=pW.o.f;have r1:=HR.o.c1;have hlt1:A+1<w1.heap.size:=by obtain⟨t,h⟩:=HR.o;exact(bJ h)
  have hlt0:A<w1.heap.size:=by omega
  cases hz:(E==0) with
  |false=>
   go_wp2;obtain⟨W,hW⟩:=zN (w1.alloc (.cells #[.int .i64 x1,.int .i64 x2,.int .i64 x3,.string ⟨x4.toArray⟩,.string ⟨x5.toArray⟩] 84));have hgW:w1.grownBy W none:=by rw[<-hW];exact aH (ax w1 none) _
   have O5:Hd (VX A 0 0 0 ⟨#[]⟩ ⟨#[]⟩ W):=by show W.heap[A]?=_;rw[hgW.block A hlt0 (by simp)];exact pW.o
   have HRW:=ae (HR.o.grow hgW);have dR:=ae (ak HG.o hgW);rw[hW];clear hW hgW ca0 ca1 ca2 ca3 ca4 ra r1 hlt0 hlt1 HR HG pW;obtain⟨ca0,ca1,ca2,ca3,ca4⟩:=O5.o.cells;have ra:=O5.o.f;have r1:=HRW.o.c1;have HF:Hd ((eU s.data.toList).2.2=zeroV/\(eU s.data.toList).2.1=j/\(eU s.data.toList).1=E):=by
    have h0:¬E=0:=by simpa using hz
    have h:=HE.o;exact⟨ae5 _ (by rw[<-h.1];exact h0),h.2.2 h0,h.1.symm⟩
   go_region
   go_wp2;refine bodyPost_ret (jS (p:=2) (u:=3) (r:=4) rfl _ _ A _ _ (0,0) _ rfl (IM O5.o 0 0 0 ⟨#[]⟩ ⟨#[]⟩) underlying84 rfl (by kernel_rfl)) rfl ⟨?_,az (Bg dR.o qU.o 0 0 0 ⟨#[]⟩ ⟨#[]⟩) 1⟩;rw[HF.o.1,HF.o.2.1,HF.o.2.2];rfl
  |true=>
   have hE0:E=0:=by simpa using hz
   have HF:Hd ((eU s.data.toList).2.2=⟨x1,x2,x3,x4,x5⟩/\(eU s.data.toList).2.1=0/\(eU s.data.toList).1=0):=by
    have h:=HE.o;have h1:(eU s.data.toList).1=0:=by rw[<-h.1];exact hE0
    exact⟨h.2.1 hE0,ae6 _ h1,h1⟩
   subst hE0;go_wp2;refine bodyPost_ret (jS (p:=2) (u:=3) (r:=4) rfl _ _ A _ #[.int .i64 x1,.int .i64 x2,.int .i64 x3,.string ⟨x4.toArray⟩,.string ⟨x5.toArray⟩] (0,0) _ rfl ((Lib.alloc_old _ _ _ (by simpa [World.setCell] using hlt0)).trans (IM pW.o x1 x2 x3 ⟨x4.toArray⟩ ⟨x5.toArray⟩)) underlying84 rfl (by kernel_rfl)) rfl ⟨?_,aH (Bg HG.o qU.o x1 x2 x3 ⟨x4.toArray⟩ ⟨x5.toArray⟩) _⟩;rw[HF.o.1,HF.o.2.1,HF.o.2.2];rfl
def VS(b:Nat)(s:ByteArray)(i:Nat)(E:Int)(a:Nat)(w:World):Prop:=w.heap[b]?=some (.cells #[.string s,.int .i64 (i:Int),.int .i64 E,.int .i64 (a:Int)] 127 (0,0))
theorem VS.c0(h:VS b s i E a w):w.cell? ⟨b,0,none⟩=some (.string s):=by rw[aj h];rfl
theorem VS.c1(h:VS b s i E a w):w.cell? ⟨b,1,none⟩=some (.int .i64 (i:Int)):=by rw[aj h];rfl
theorem VS.c2(h:VS b s i E a w):w.cell? ⟨b,2,none⟩=some (.int .i64 E):=by rw[aj h];rfl
theorem VS.c3(h:VS b s i E a w):w.cell? ⟨b,3,none⟩=some (.int .i64 (a:Int)):=by rw[aj h];rfl
theorem VS.f1(h:VS b s i E a w):w.frozen? ⟨b,1,none⟩=false:=Lib.frozen_of_heap h 1
theorem VS.f2(h:VS b s i E a w):w.frozen? ⟨b,2,none⟩=false:=Lib.frozen_of_heap h 2
theorem VS.f3(h:VS b s i E a w):w.frozen? ⟨b,3,none⟩=false:=Lib.frozen_of_heap h 3
theorem VS.drew(h:VS b s i E a w)(n:Nat):VS b s i E a (w.drewN n):=h
theorem VS.set1(h:VS b s i E a w)(j:Nat):VS b s j E a (w.setCell ⟨b,1,none⟩ (.int .i64 (j:Int))):=by
 unfold VS at h ⊢;simp[World.setCell,Array.getElem?_modify,h]
theorem VS.set2(h:VS b s i E a w)(F:Int):VS b s i F a (w.setCell ⟨b,2,none⟩ (.int .i64 F)):=by
 unfold VS at h ⊢;simp[World.setCell,Array.getElem?_modify,h]
theorem VS.set3(h:VS b s i E a w)(c:Nat):VS b s i E c (w.setCell ⟨b,3,none⟩ (.int .i64 (c:Int))):=by
 unfold VS at h ⊢;simp[World.setCell,Array.getElem?_modify,h]
theorem zO(b:Nat)(s:ByteArray)(i:Nat)(a:Nat)(F:Int)(c:Nat)(w:World)(h:VS b s i 0 a w) :
  Calls prog 91 #[.pointer (some ⟨b,0,none⟩),.int .i64 F,.int .i64 (c:Int)] w fun e w'=>e=.returned (.tuple #[])/\VS b s i F c w'/\w.grownBy w' (some b):=by
 have h2:=h.c2;have h3:=h.c3;have f2:=h.f2;have f3:=h.f3;have HR:=ae h;clear h;go_enter func91,ntmps91;go_wp2
 go_end0
 exact⟨rfl,(HR.o.set2 F).set3 c,aT (aT (ax w _) _ _) _ _⟩
theorem ae7(b:Nat)(s:ByteArray)(i:Nat)(E:Int)(hE:E≠0)(a:Nat)(F:Int)(c:Nat)(w:World)(h:VS b s i E a w) :
  Calls prog 91 #[.pointer (some ⟨b,0,none⟩),.int .i64 F,.int .i64 (c:Int)] w fun e w'=>e=.returned (.tuple #[])/\VS b s i E a w'/\w.grownBy w' (some b):=by
 have h2:=h.c2;have HR:=ae h;have hn:(E==0)=false:=by simpa using hE
 clear h hE;go_enter func91,ntmps91;go_wp2
 go_end0
 exact⟨rfl,HR.o,ax w _⟩
theorem ae8(b:Nat)(s:ByteArray)(i:Nat)(E:Int)(a:Nat)(c:UInt8)(w:World)(hc:s.data.toList[i]?=some c)(h:VS b s i E a w)(hs:s.size<2 ^ 62) :
  Calls prog 89 #[.pointer (some ⟨b,0,none⟩),.int .u8 (c.toNat:Int)] w fun e w'=>e=.returned (.tuple #[])/\VS b s (i+1) E a w'/\w.grownBy w' (some b):=by
 have h0:=h.c0;have h1:=h.c1;have f1:=h.f1;have HR:=ae h;clear h;have hlt:i<s.size:=by have:=(List.getElem?_eq_some_iff.1 hc).1;simpa using this
 rw[lZ s i hlt]at hc;have hc':=Option.some.inj hc;clear hc;subst hc';have hd:decide ((s.size:Int)<=(i:Int))=false:=by simp;omega
 have hw:IntKind.i64.wrap ((i:Int)+1)=((i+1:Nat):Int):=by rw[IntKind.wrap_i64];omega
 go_enter func89,ntmps89;go_wp2;go_quiet (fail);go_wp2
 go_end0
 exact⟨rfl,(HR.o.drew nq).set1 (i+1),aT (az (ax w _) _) _ _⟩
theorem ae9(b:Nat)(s:ByteArray)(i:Nat)(a:Nat)(c:UInt8)(w:World)(hi:i<=s.size)(hc:¬s.data.toList[i]?=some c)(h:VS b s i 0 a w)(hs:s.size<2 ^ 62) :
  Calls prog 89 #[.pointer (some ⟨b,0,none⟩),.int .u8 (c.toNat:Int)] w fun e w'=>e=.returned (.tuple #[])/\VS b s i 2 i w'/\w.grownBy w' (some b):=by
 have h0:=h.c0;have h1:=h.c1;have HR:=ae h;clear h
 by_cases hlt:i<s.size
 ·rw[lZ s i hlt]at hc;have hne:s[i]≠c:=fun e=>hc (by rw[e])
  have hn:((s[i].toNat:Int) == (c.toNat:Int))=false:=by
   simp only[beq_eq_false_iff_ne,ne_eq];intro e;exact hne (UInt8.toNat_inj.1 (by omega))
  have hd:decide ((s.size:Int)<=(i:Int))=false:=by simp;omega
  have hm:((s[i].toNat:Int) != (c.toNat:Int))=true:=by rw[bne,hn];rfl
  clear hc hne;go_enter func89,ntmps89;go_wp2;go_quiet (fail);have e1:(w.drewN nq).cell? ⟨b,1,none⟩=some (.int .i64 (i:Int)):=h1;go_wp2_with (go_at_call 91;refine(zO b s i a 2 i _ (HR.o.drew _)).mono ?_);rintro e w1 ⟨rfl,hr,hg⟩;go_wp2
  (try simp only[Exit.inBlock,Exit.then])
  refine bodyPost_ret (results_none rfl _ _ _) rfl ?_;exact⟨rfl,hr,ak (az (ax w _) _) hg⟩
 ·have hd:decide ((s.size:Int)<=(i:Int))=true:=by simp;omega
  clear hc;go_enter func89,ntmps89;go_wp2;go_quiet (fail);have e1:(w.drewN nq).cell? ⟨b,1,none⟩=some (.int .i64 (i:Int)):=h1;go_wp2_with (go_at_call 91;refine(zO b s i a 2 i _ (HR.o.drew _)).mono ?_);rintro e w1 ⟨rfl,hr,hg⟩;go_wp2
  (try simp only[Exit.inBlock,Exit.then])
  refine bodyPost_ret (results_none rfl _ _ _) rfl ?_;exact⟨rfl,hr,ak (az (ax w _) _) hg⟩
def zQ(n:Int)(c:UInt8):Int:=if n<=999999999 then 10*n+((c.toNat:Int)-48) else n
def kK(l:List UInt8):Int:=l.foldl zQ 0
theorem Xu(T:List UInt8)(m:Nat)(hm:m<T.length):kK (T.take (m+1))=zQ (kK (T.take m)) T[m]:=by
 rw[List.take_succ_eq_append_getElem hm];unfold kK;rw[List.foldl_append];rfl
theorem afa(T:List UInt8)(h:T.all aY=true):∀m,m<=T.length->(0<=kK (T.take m)/\kK (T.take m)<=9999999999)/\(bK (T.take m)<=999999999->kK (T.take m)=bK (T.take m))/\(999999999<bK (T.take m)->999999999<kK (T.take m)):=by
 intro m
 induction m with
 |zero=>intro _;exact⟨⟨Int.le_refl 0,by show(0:Int)<=_;omega⟩,fun _=>rfl,fun h=>absurd h (by show ¬(999999999:Int)<0;omega)⟩
 |succ m ih=>
  intro hm;obtain⟨i1,i2,i3⟩:=ih (by omega);have hdg:=AV (List.all_eq_true.1 h T[m] (List.getElem_mem (by omega)));rw[Xu T m (by omega),Vo T m (by omega)];have hv0:0<=bK (T.take m):=Ei _ (List.all_eq_true.2 (fun c hc=>List.all_eq_true.1 h c (List.mem_of_mem_take hc)));unfold zQ
  by_cases hb:bK (T.take m)<=999999999
  ·have e:=i2 hb;rw[e,if_pos hb];refine⟨⟨by omega,by omega⟩,fun _=>rfl,fun h=>h⟩
  ·have e:=i3 (by omega);rw[if_neg (by omega)];exact⟨i1,fun h=>by omega,fun _=>e⟩
theorem VS.place(h:VS b s i E a w):placeOf b w=i:=by unfold placeOf;rw[h.c1];simp
def Xv(b:Nat)(s:ByteArray)(i:Nat)(w:World)(e:Ending)(w':World):Prop :=
 ∃(v:Int) (j:Nat) (E:Int) (c:Nat),e=.returned (.int .i64 v)/\VS b s j E c w'/\w.grownBy w' (some b)/\E=(rdNum s.data.toList i).1/\(E=0->v=(rdNum s.data.toList i).2.1/\j=(rdNum s.data.toList i).2.2/\j<=s.size)/\(E≠0->c=(rdNum s.data.toList i).2.2)
def Xw(b:Nat)(s:ByteArray)(i:Nat)(F:Int)(a:Nat)(w:World)(e:Ending)(w':World):Prop :=
 ∃(v:Int) (j:Nat) (E:Int) (c:Nat),e=.returned (.int .i64 v)/\VS b s j E c w'/\w.grownBy w' (some b)/\j<=s.size/\(¬F=0->E=F/\c=a)/\(F=0->E=(rdNum s.data.toList i).1/\(E=0->v=(rdNum s.data.toList i).2.1/\j=(rdNum s.data.toList i).2.2)/\(E≠0->c=(rdNum s.data.toList i).2.2))
theorem FN(b:Nat)(s:ByteArray)(i:Nat)(E:Int)(a:Nat)(F:Int)(c:Nat)(w:World)(h:VS b s i E a w) :
  Calls prog 91 #[.pointer (some ⟨b,0,none⟩),.int .i64 F,.int .i64 (c:Int)] w fun e w'=>∃(E1:Int) (c1:Nat),e=.returned (.tuple #[])/\Hd (VS b s i E1 c1 w'/\w.grownBy w' (some b)/\(E=0->E1=F/\c1=c)/\(¬E=0->E1=E/\c1=a)):=by
 by_cases hE:E=0
 ·subst hE;exact(zO b s i a F c w h).mono fun e w' hh=>⟨F,c,hh.1,hh.2.1,hh.2.2,fun _=>⟨rfl,rfl⟩,fun h=>absurd rfl h⟩
 ·exact(ae7 b s i E hE a F c w h).mono fun e w' hh=>⟨E,a,hh.1,hh.2.1,hh.2.2,fun h=>absurd h hE,fun _=>⟨rfl,rfl⟩⟩
theorem Xx(b:Nat)(s:ByteArray)(i:Nat)(F:Int)(a:Nat)(w:World)(hi:i<=s.size)(h:VS b s i F a w)(hs:s.size<2 ^ 62) :
  Calls prog 88 #[.pointer (some ⟨b,0,none⟩)] w (Xw b s i F a w):=by
 have h1:=h.c1;have HR:=ae h;have hsl:s.data.toList.length=s.size:=by simp
 have hle:i+runN aY s.data.toList i<=s.size:=by have:=pF aY s.data.toList i (by rw[hsl];exact hi);rw[hsl]at this;exact this
 have hln:=tZ s.data.toList i (runN aY s.data.toList i) (by rw[hsl];exact hle);have hall:=AY aY s.data.toList i;obtain⟨k,hk⟩:=zN (runN aY s.data.toList i);have HS:Hd (∀hj:i+k<s.size,aY s[i+k]=false):=by
  show ∀hj:i+k<s.size,aY s[i+k]=false;intro hj;have:=AX aY s.data.toList i (by rw[hk];simpa using hj);simp only[hk]at this;exact this
 rw[hk]at hle hln hall;obtain⟨T,hT⟩:=zN (au s.data.toList i k);have O6:Hd (∀m (hm:m<k) (h2:i+m<s.size) (h3:m<T.length),s[i+m]=T[m]):=by
  show ∀m (hm:m<k) (h2:i+m<s.size) (h3:m<T.length),s[i+m]=T[m];intro m hm h2 h3;have e1:T[m]?=s.data.toList[i+m]?:=by rw[<-hT];unfold au;rw[List.getElem?_take_of_lt hm,List.getElem?_drop]
  rw[lZ s (i+m) h2,List.getElem?_eq_getElem h3]at e1;exact(Option.some.inj e1).symm
 rw[hT]at hln hall;have HP:Hd (∀(v:Int) (j:Nat) (E:Int) (c:Nat) (w':World),VS b s j E c w'->w.grownBy w' (some b)->j=i+k->(¬F=0->E=F/\c=a)->(F=0 →
   (k=0/\E=2/\c=i\/¬k=0/\(1<k/\s.data.toList[i]?=some 48)/\E=2/\c=i\/¬k=0/\¬(1<k/\s.data.toList[i]?=some 48)/\bK T > 999999999/\E=3/\c=i\/¬k=0/\¬(1<k/\s.data.toList[i]?=some 48)/\¬bK T > 999999999/\E=0/\v=bK T/\j=i+k))->Xw b s i F a w (.returned (.int .i64 v)) w'):=by
  intro v j E c w' hv hg hjk hl ho;refine⟨v,j,E,c,rfl,hv,hg,by omega,hl,fun hF=>?_⟩;have ho:=ho hF;unfold rdNum;rw[hk,hT]
  rcases ho with⟨o1,rfl,rfl⟩|⟨o1,o2,rfl,rfl⟩|⟨o1,o2,o3,rfl,rfl⟩|⟨o1,o2,o3,rfl,rfl,rfl⟩
  ·rw[if_pos o1];exact⟨rfl,fun h=>absurd h (by decide),fun _=>rfl⟩
  ·rw[if_neg o1,if_pos o2];exact⟨rfl,fun h=>absurd h (by decide),fun _=>rfl⟩
  ·rw[if_neg o1,if_neg o2,if_pos o3];exact⟨rfl,fun h=>absurd h (by decide),fun _=>rfl⟩
  ·rw[if_neg o1,if_neg o2,if_neg o3];exact⟨rfl,fun _=>⟨rfl,rfl⟩,fun h=>absurd rfl h⟩
 have HD:Hd (∀m j (hm:m<k) (hj:j=i+m) (h2:j<s.size),aY s[j]=true):=by
  show ∀m j (hm:m<k) (hj:j=i+m) (h2:j<s.size),aY s[j]=true;intro m j hm hj h2;subst hj;rw[O6.o m hm h2 (by omega)];exact List.all_eq_true.1 hall _ (List.getElem_mem _)
 have Xy:Hd (∀m j (hm:m<k) (hj:j=i+m) (h2:j<s.size),kK (T.take (m+1))=zQ (kK (T.take m)) s[j]):=by
  show ∀m j (hm:m<k) (hj:j=i+m) (h2:j<s.size),kK (T.take (m+1))=zQ (kK (T.take m)) s[j];intro m j hm hj h2;subst hj;rw[O6.o m hm h2 (by omega)];exact Xu T m (by omega)
 have HC:Hd (T.length=k/\∀m,m<=k->(0<=kK (T.take m)/\kK (T.take m)<=9999999999)/\(bK (T.take m)<=999999999->kK (T.take m)=bK (T.take m))/\(999999999<bK (T.take m)->999999999<kK (T.take m))):=⟨hln,fun m hm=>afa T hall m (by omega)⟩;have HL:=ae hle;clear hk hT hln hall h hsl hle hi;go_enter func88,ntmps88;go_wp2;go_loopw [4] (fun vn wr=>∃m j:Nat,j=i+m/\m<=k/\vn=.int .i64 (kK (T.take m))/\VS b s j F a wr/\w.grownBy wr (some b)) (fun _ wr=>s.size-placeOf b wr)
 case atStart=>exact⟨0,i,rfl,Nat.zero_le _,rfl,HR.o,ax _ _⟩
 case round=>
  obtain⟨m,j,hj,hmk,rfl,hrs,hgb⟩:=hrel;have d0:=hrs.c0;have d1:=hrs.c1;have df:=hrs.f1;have aN:=ae hrs;have aW:=ae hgb;have hil:=HL.o;have hcb:=(HC.o.2 m hmk).1;clear hrs hgb h1 HR
  by_cases hlt:m<k
  ·have hjs:j<s.size:=by omega
   have hD:=HD.o m j hlt hj hjs;have hdg:=AV hD;have ed:=ae (Xy.o m j hlt hj hjs);have HK:Hd (m<k/\j=i+m/\j<s.size):=⟨hlt,hj,hjs⟩;obtain⟨v,hv⟩:∃v,v=kK (T.take m):=⟨_,rfl⟩;rw[<-hv]at hcb ed;rw[<-hv];clear hv hlt hil hmk hj;have hlt2:(j:Int)<(s.size:Int):=by omega
   have hw:IntKind.i64.wrap ((j:Int)+1)=((j+1:Nat):Int):=by rw[IntKind.wrap_i64];omega
   by_cases hb:v<=999999999
   ·have r1:IntKind.i64.wrap (10*v)=10*v:=by rw[IntKind.wrap_i64];omega
    have r2:IntKind.i64.wrap (10*v+(s[j].toNat:Int))=10*v+(s[j].toNat:Int):=by rw[IntKind.wrap_i64];omega
    have r3:IntKind.i64.wrap (10*v+(s[j].toNat:Int)-48)=10*v+(s[j].toNat:Int)-48:=by rw[IntKind.wrap_i64];omega
    have HN:Hd (10*v+(s[j].toNat:Int)-48=kK (T.take (m+1))):=by show _=_;rw[ed.o];unfold zQ;rw[if_pos hb];omega
    go_wp2;go_quiet (first|(go_at_call 47;exact Calls.quiet_of_same (pK _ _)));go_wp2;have gX:=ae aN.o.place;obtain⟨W,hW⟩:=zN (wr.drewN nq);have e0:W.cell? ⟨b,0,none⟩=some (.string s):=by rw[<-hW];exact d0
    have e1:W.cell? ⟨b,1,none⟩=some (.int .i64 (j:Int)):=by rw[<-hW];exact d1
    have ef:W.frozen? ⟨b,1,none⟩=false:=by rw[<-hW];exact df
    have HW:Hd (VS b s j F a W/\w.grownBy W (some b)):=by
     show VS b s j F a W/\w.grownBy W (some b);rw[<-hW];exact⟨aN.o.drew _,az aW.o _⟩
    rw[hW];clear hW d0 d1 df aN aW;go_quiet (fail);go_wp2;go_roundw
    case rel=>exact⟨m+1,j+1,by have:=HK.o;omega,by have:=HK.o;omega,by rw[<-HN.o],(HW.o.1.drew _).set1 (j+1),aT (az HW.o.2 _) _ _⟩
    case measure=>
     have e2:=((HW.o.1.drew nq).set1 (j+1)).place;rw[gX.o];exact Nat.lt_of_le_of_lt (Nat.le_of_eq (congrArg (s.size - ·) e2)) (by omega)
   ·have HN:Hd (v=kK (T.take (m+1))):=by show _=_;rw[ed.o];unfold zQ;rw[if_neg hb]
    go_wp2;go_quiet (first|(go_at_call 47;exact Calls.quiet_of_same (pK _ _)));go_wp2;go_roundw
    case rel=>exact⟨m+1,j+1,by have:=HK.o;omega,by have:=HK.o;omega,by rw[<-HN.o],(aN.o.drew _).set1 (j+1),aT (az aW.o _) _ _⟩
    case measure=>
     have e1:=aN.o.place;have e2:=((aN.o.drew nq).set1 (j+1)).place;rw[e1];exact Nat.lt_of_le_of_lt (Nat.le_of_eq (congrArg (s.size - ·) e2)) (by omega)
  ·have ak0:m=k:=by omega
   subst m;obtain⟨v,hv⟩:∃v,v=kK (T.take k):=⟨_,rfl⟩;have Xz:=List.take_of_length_le (by rw[HC.o.1];exact Nat.le_refl _);have yj:Hd ((bK T<=999999999->v=bK T)/\(999999999<bK T->999999999<v)):=by
    have:=(HC.o.2 k hmk).2;rw[Xz]at this hv;show(bK T<=999999999->v=bK T)/\(999999999<bK T->999999999<v);rw[hv];exact this
   have hv0:k=0->v=0:=fun h=>by rw[hv,h];rfl
   rw[<-hv]at hcb;rw[<-hv];have qW:Hd (j=i+k/\i+k<=s.size):=⟨hj,hil⟩;clear hv Xz HD Xy HC O6 hlt hmk hil;have hen:(∃hjs:j<s.size,aY s[j]=false)\/(¬j<s.size/\decide ((j:Int)<(s.size:Int))=false):=by
    by_cases hjs:j<s.size
    ·exact .inl ⟨hjs,by subst hj;exact HS.o hjs⟩
    ·exact .inr ⟨hjs,by simp;omega⟩
   clear HS HL hj
   rcases hen with⟨hjs,hD⟩|⟨hjn,hd2⟩
   all_goals (
    first
     | (have hlt2:(j:Int)<(s.size:Int):=by omega
        go_wp2;go_quiet (first|(go_at_call 47;exact Calls.quiet_of_same (pK _ _))))
     | (go_wp2
        go_quiet (fail))
    obtain⟨W,hW⟩:=zN (wr.drewN nq);have e0:W.cell? ⟨b,0,none⟩=some (.string s):=by rw[<-hW];exact d0
    have e1:W.cell? ⟨b,1,none⟩=some (.int .i64 (j:Int)):=by rw[<-hW];exact d1
    have ef:W.frozen? ⟨b,1,none⟩=false:=by rw[<-hW];exact df
    have HW:Hd (VS b s j F a W/\w.grownBy W (some b)):=by
     show VS b s j F a W/\w.grownBy W (some b);rw[<-hW];exact⟨aN.o.drew _,az aW.o _⟩
    rw[hW];clear hW d0 d1 df aN aW;have hj:=qW.o.1;have hil:=qW.o.2;have q2:IntKind.i64.wrap ((j:Int)-(i:Int))=(k:Int):=by rw[IntKind.wrap_i64];omega
    by_cases hk0:k=0
    ·have q1:((j:Int) == (i:Int))=true:=by simp;omega
     have q5:decide ((999999999:Int)<v)=false:=by simp;have:=hv0 hk0;omega
     have HO:=ae hk0;clear hk0 hv0 hj hil q2;go_wp2_with (go_at_call 91;refine(FN b s j F a 2 i _ HW.o.1).mono ?_);rintro e w1 ⟨E1,c1,rfl,hr⟩;go_wp2;go_ret;exact HP.o _ j _ _ _ hr.o.1 (ak HW.o.2 hr.o.2.1) qW.o.1 hr.o.2.2.2 fun h=>Or.inl ⟨HO.o,hr.o.2.2.1 h⟩
    ·have q1:((j:Int) == (i:Int))=false:=by simp;omega
     have his:i<s.size:=by omega
     have hgd:=lZ s i his;have HJ:=ae hj;have hz:(decide ((1:Int)<(k:Int))=true/\((s[i].toNat:Int) == 48)=true/\1<k/\s.data.toList[i]?=some 48)\/((decide ((1:Int)<(k:Int))=true/\((s[i].toNat:Int) == 48)=false)/\¬(1<k/\s.data.toList[i]?=some 48))\/(decide ((1:Int)<(k:Int))=false/\¬(1<k/\s.data.toList[i]?=some 48)):=by
      by_cases h1k:1<k
      ·have q3:decide ((1:Int)<(k:Int))=true:=by simp;omega
       cases q4:((s[i].toNat:Int) == 48) with
       |true=>exact .inl ⟨q3,rfl,h1k,by rw[hgd];congr 1;exact UInt8.toNat_inj.1 (by simp at q4;show s[i].toNat=48;omega)⟩
       |false=>exact .inr (.inl ⟨⟨q3,rfl⟩,fun h=>by
         have:=h.2;rw[hgd]at this;have e:=Option.some.inj this;rw[e]at q4;simp at q4⟩)
      ·exact .inr (.inr ⟨by simp;omega,fun h=>h1k h.1⟩)
     rcases hz with⟨q3,q4,ho⟩|⟨⟨q3,q4⟩,ho⟩|⟨q3,ho⟩
     ·have HO:Hd (¬k=0/\(1<k/\s.data.toList[i]?=some 48)):=⟨hk0,ho⟩;clear hgd hk0 hv0 hj hil ho
      cases q5:decide ((999999999:Int)<v) with
      |true=>
       go_wp2_with (go_at_call 91;refine(FN b s j F a 2 i _ HW.o.1).mono ?_);rintro e w1 ⟨E1,c1,rfl,hr⟩;go_wp2_with (go_at_call 91;refine(FN b s j _ _ 3 i _ hr.o.1).mono ?_);rintro e w2 ⟨E2,c2,rfl,hr2⟩;go_wp2;go_ret;exact HP.o _ j _ _ _ hr2.o.1 (ak (ak HW.o.2 hr.o.2.1) hr2.o.2.1) qW.o.1 (fun h=>by obtain⟨x,y⟩:=hr.o.2.2.2 h;obtain⟨x2,y2⟩:=hr2.o.2.2.2 (x ▸ h);exact⟨x2.trans x,y2.trans y⟩) fun h=>Or.inr (Or.inl ⟨HO.o.1,HO.o.2,by obtain⟨x,y⟩:=hr.o.2.2.1 h;obtain⟨x2,y2⟩:=hr2.o.2.2.2 (by rw[x];decide);exact⟨x2.trans x,y2.trans y⟩⟩)
      |false=>
       go_wp2_with (go_at_call 91;refine(FN b s j F a 2 i _ HW.o.1).mono ?_);rintro e w1 ⟨E1,c1,rfl,hr⟩;go_wp2;go_ret;exact HP.o _ j _ _ _ hr.o.1 (ak HW.o.2 hr.o.2.1) qW.o.1 hr.o.2.2.2 fun h=>Or.inr (Or.inl ⟨HO.o.1,HO.o.2,hr.o.2.2.1 h⟩)
     all_goals (
      have HO:Hd (¬k=0/\¬(1<k/\s.data.toList[i]?=some 48)):=⟨hk0,ho⟩;clear hgd hk0 hv0 ho hj hil
      cases q5:decide ((999999999:Int)<v) with
      |true=>
       have HB:Hd (bK T > 999999999):=by
        show bK T > 999999999;have h1:=of_decide_eq_true q5;refine Int.not_le.1 (fun h2=>?_);have:=yj.o.1 h2;omega
       go_wp2_with (go_at_call 91;refine(FN b s j F a 3 i _ HW.o.1).mono ?_);rintro e w1 ⟨E1,c1,rfl,hr⟩;go_wp2;go_ret;exact HP.o _ j _ _ _ hr.o.1 (ak HW.o.2 hr.o.2.1) qW.o.1 hr.o.2.2.2 fun h=>Or.inr (Or.inr (Or.inl ⟨HO.o.1,HO.o.2,HB.o,hr.o.2.2.1 h⟩))
      |false=>
       have HB:Hd (¬bK T > 999999999):=by
        show ¬bK T > 999999999;have h1:=of_decide_eq_false q5;exact fun h2=>h1 (yj.o.2 h2)
       have HE:=ae (yj.o.1 (Int.not_lt.1 HB.o));go_wp2;go_ret;exact HP.o _ j _ _ _ HW.o.1 HW.o.2 qW.o.1 (fun _=>⟨rfl,rfl⟩) fun h=>Or.inr (Or.inr (Or.inr ⟨HO.o.1,HO.o.2,HB.o,h,HE.o,HJ.o⟩))))
theorem XA(b:Nat)(s:ByteArray)(i:Nat)(a:Nat)(w:World)(hi:i<=s.size)(h:VS b s i 0 a w)(hs:s.size<2 ^ 62) :
  Calls prog 88 #[.pointer (some ⟨b,0,none⟩)] w (Xv b s i w):=(Xx b s i 0 a w hi h hs).mono fun e w' ⟨v,j,E,c,h1,h2,h3,h4,_,h6⟩=>⟨v,j,E,c,h1,h2,h3,(h6 rfl).1,fun hE=>⟨((h6 rfl).2.1 hE).1,((h6 rfl).2.1 hE).2,h4⟩,(h6 rfl).2.2⟩
def afb:Value->Nat
 | .bool true=>1
 |_=>0
def XB(st:Bool)(b:Nat)(s:ByteArray)(i:Nat)(w:World)(e:Ending)(w':World):Prop :=
 ∃(v:ByteArray) (j:Nat) (E:Int) (c:Nat),e=.returned (.string v)/\VS b s j E c w'/\w.grownBy w' (some b)/\E=(aX st s.data.toList i).1/\(E=0->v=⟨(au s.data.toList i (j-i)).toArray⟩/\j=(aX st s.data.toList i).2/\j<=s.size)/\(E≠0->c=(aX st s.data.toList i).2)
theorem afc(st:Bool)(b:Nat)(s:ByteArray)(i:Nat)(a:Nat)(w:World)(hi:i<=s.size)(h:VS b s i 0 a w)(hs:s.size<2 ^ 62) :
  Calls prog 117 #[.pointer (some ⟨b,0,none⟩),.bool st] w (XB st b s i w):=by
 have h1:=h.c1;have HR:=ae h;have HI:=ae hi;obtain⟨R,hR⟩:=zN (aX st s.data.toList i);have HRR:=ae hR;have HP:Hd (∀(v:ByteArray) (j:Nat) (E:Int) (c:Nat) (w':World),VS b s j E c w'->w.grownBy w' (some b)->v=⟨(au s.data.toList i (j-i)).toArray⟩->j<=s.size->(E=0->R=(0,j))->(E≠0->R=(E,c))->XB st b s i w (.returned (.string v)) w'):=by
  intro v j E c w' hv hg he hj h0 h1;refine⟨v,j,E,c,rfl,hv,hg,?_⟩;rw[hR]
  by_cases hE:E=0
  ·have:=h0 hE;subst hE;rw[this];exact⟨rfl,fun _=>⟨he,rfl,hj⟩,fun h=>absurd rfl h⟩
  ·have:=h1 hE;rw[this];exact⟨rfl,fun h=>absurd h hE,fun _=>rfl⟩
 clear hR h hi;go_enter func117,ntmps117;go_wp2;go_loopw [6] (fun vm wr=>∃(mo:Bool) (j c:Nat) (E:Int),vm=.bool mo/\i<=j/\j<=s.size/\VS b s j E c wr/\w.grownBy wr (some b)/\(E=0->(mo=true->aX st s.data.toList j=R)/\(mo=false->R=(0,j)))/\(E≠0->R=(E,c))) (fun vm wr=>2*(s.size-placeOf b wr)+afb vm)
 case atStart=>exact⟨true,i,a,0,rfl,Nat.le_refl _,HI.o,HR.o,ax _ _,fun _=>⟨fun _=>HRR.o,fun h=>absurd h (by decide)⟩,fun h=>absurd rfl h⟩
 case round=>
  obtain⟨mo,j,c,E,rfl,hij,hjs,hrs,hgb,hp0,hp1⟩:=hrel;have d0:=hrs.c0;have d1:=hrs.c1;have d2:=hrs.c2;have df:=hrs.f1;have aN:=ae hrs;have aW:=ae hgb;have wG:=ae hp0;have jy:=ae hp1;have HJ:Hd (i<=j/\j<=s.size):=⟨hij,hjs⟩;clear hrs hgb h1 HR hp0 hp1 hij hjs;have sl:=fun wx=>mM s i j HJ.o.1 HJ.o.2 wx
  cases mo with
  |false=>
   go_wp2;go_quiet (fail);go_wp2;go_ret;exact HP.o _ j E c _ (aN.o.drew _) (az aW.o _) rfl HJ.o.2 (fun h=>(wG.o h).2 (by first|rfl|trivial)) jy.o
  |true=>
   cases hz:(E==0) with
   |false=>
    go_wp2;go_quiet (fail);go_wp2;go_ret;exact HP.o _ j E c _ (aN.o.drew _) (az aW.o _) rfl HJ.o.2 (fun h=>absurd h (by simpa using hz)) jy.o
   |true=>
    have hE:E=0:=by simpa using hz
    subst hE;have dJ:=ae ((wG.o rfl).1 rfl);have gX:=ae aN.o.place;obtain⟨k,hk⟩:=zN (runN aS s.data.toList j);have hsl:s.data.toList.length=s.size:=by simp
    have HN:Hd (j+k<=s.size):=by
     show j+k<=s.size;have:=pF aS s.data.toList j (by rw[hsl];exact HJ.o.2);rw[hsl]at this;omega
    have HA:Hd (∀q,j<=q->(hq:q<s.size)->q<j+k->aS s[q]=true):=by
     show ∀q,j<=q->(hq:q<s.size)->q<j+k->aS s[q]=true;intro q h1 hq h2;obtain⟨g1,g2⟩:=Io aS s.data.toList j (q-j) (by omega);have e:j+(q-j)=q:=by omega
     simp only[e]at g2;exact g2
    have HS:Hd (∀q,q=j+k->(hq:q<s.size)->aS s[q]=false):=by
     show ∀q,q=j+k->(hq:q<s.size)->aS s[q]=false;intro q e hq;have:=AX aS s.data.toList j (by rw[hk];simpa [<-e] using hq);simp only[hk,<-e]at this;exact this
    obtain⟨T,hT⟩:=zN (au s.data.toList j k);have XC:Hd (T.length=k):=by show T.length=k;rw[<-hT];exact tZ s.data.toList j k (by rw[hsl];exact HN.o)
    obtain⟨X,hX⟩:∃X:ByteArray,X=⟨T.toArray⟩:=⟨_,rfl⟩;have O7:Hd (X.data.toList=T):=by show X.data.toList=T;rw[hX]
    have jc:Hd (∀q,q=j+k->∀wx,(Instr.slice 9 (.string s) (some (.int .i64 (j:Int))) (some (.int .i64 (q:Int))) none).run prog wx=.ok (.string X) wx):=by
     show ∀q,q=j+k->∀wx,(Instr.slice 9 (.string s) (some (.int .i64 (j:Int))) (some (.int .i64 (q:Int))) none).run prog wx=.ok (.string X) wx;intro q e wx;subst e;have:=mM s j (j+k) (by omega) HN.o wx;rw[show j+k-j=k by omega,hT,<-hX]at this;exact this
    have HST:Hd ((if k=0 then(2,j) else if jh st T=true then(2,j) else if s.data.toList[j+k]?=some 46 then aX st s.data.toList (j+k+1) else(0,j+k))=R):=by
     have:=dJ.o;rw[Ej,hk,hT]at this;exact this
    clear hz sl hk hT hX dJ wG jy hsl;go_wp2;go_loopw [] (fun wq=>∃q:Nat,j<=q/\q<=j+k/\VS b s q 0 c wq/\w.grownBy wq (some b)) (fun wq=>s.size-placeOf b wq)
    case atStart=>exact⟨j,Nat.le_refl _,Nat.le_add_right _ _,aN.o,aW.o⟩
    clear aN aW d0 d1 d2 df;rename_i wr0 _ _ _;obtain⟨q,hjq,FO,hrs,hgb⟩:=hrel;have d0:=hrs.c0;have d1:=hrs.c1;have df:=hrs.f1;have aN:=ae hrs;have aW:=ae hgb;have hns:=HN.o;clear hrs hgb
    by_cases hlt:q<j+k
    ·have oW:q<s.size:=by omega
     have hD:=HA.o q hjq oW hlt;have HK:Hd (j<=q/\q<j+k/\q<s.size):=⟨hjq,hlt,oW⟩;have hlt2:(q:Int)<(s.size:Int):=by omega
     have hw:IntKind.i64.wrap ((q:Int)+1)=((q+1:Nat):Int):=by rw[IntKind.wrap_i64];omega
     clear hlt FO hns hjq;go_wp2;go_quiet (first|(go_at_call 148;exact Calls.quiet_of_same (TU _ _)));go_wp2;go_roundw
     case rel=>
      have:=HK.o;exact⟨q+1,by omega,by omega,(aN.o.drew _).set1 (q+1),aT (az aW.o _) _ _⟩
     case measure=>
      have e1:=aN.o.place;have e2:=((aN.o.drew nq).set1 (q+1)).place;rw[e1];exact Nat.lt_of_le_of_lt (Nat.le_of_eq (congrArg (s.size - ·) e2)) (by have:=HK.o;omega)
    ·have HQ:Hd (q=j+k):=by show q=j+k;omega
     have sl2:=jc.o q HQ.o;clear hlt FO hns hjq;have hen:(∃oW:q<s.size,aS s[q]=false/\((s[q].toNat:Int) == 46)=true/\s.data.toList[q]?=some 46/\q<s.size)\/(∃oW:q<s.size,aS s[q]=false/\((s[q].toNat:Int) == 46)=false/\¬s.data.toList[q]?=some 46)\/(¬q<s.size/\decide ((q:Int)<(s.size:Int))=false/\¬s.data.toList[q]?=some 46):=by
      by_cases oW:q<s.size
      ·have hD:=HS.o q HQ.o oW
       cases q46:((s[q].toNat:Int) == 46) with
       |true=>exact .inl ⟨oW,hD,q46,by rw[lZ s q oW];congr 1;exact UInt8.toNat_inj.1 (by simp at q46;show s[q].toNat=46;omega),oW⟩
       |false=>exact .inr (.inl ⟨oW,hD,q46,by
         rw[lZ s q oW];intro e;have:=Option.some.inj e;rw[this]at q46;exact absurd q46 (by decide)⟩)
      ·exact .inr (.inr ⟨oW,by simp;omega,by rw[List.getElem?_eq_none (by simp;omega)];simp⟩)
     rcases hen with⟨oW,hD,q46,hdt⟩|⟨oW,hD,q46,hdf⟩|⟨FO,hd2,hdf⟩
     all_goals (
      first
       | (have FP:Hd (s.data.toList[q]?=some 46/\q<s.size):=hdt
          clear hdt)
       | (have HDf:Hd (¬s.data.toList[q]?=some 46):=hdf
          clear hdf)
      first
       | (have hlt2:(q:Int)<(s.size:Int):=by omega
          go_wp2;go_quiet (first|(go_at_call 148;exact Calls.quiet_of_same (TU _ _))))
       | (go_wp2
          go_quiet (fail))
      obtain⟨W,hW⟩:=zN (wr.drewN nq);have e0:W.cell? ⟨b,0,none⟩=some (.string s):=by rw[<-hW];exact d0
      have e1:W.cell? ⟨b,1,none⟩=some (.int .i64 (q:Int)):=by rw[<-hW];exact d1
      have ef:W.frozen? ⟨b,1,none⟩=false:=by rw[<-hW];exact df
      have HW:Hd (VS b s q 0 c W/\w.grownBy W (some b)):=by
       show VS b s q 0 c W/\w.grownBy W (some b);rw[<-hW];exact⟨aN.o.drew _,az aW.o _⟩
      rw[hW];clear hW d0 d1 df aN aW;go_wp2;go_quiet (fail);obtain⟨U,hU⟩:=zN (W.drewN nq);have g0:U.cell? ⟨b,0,none⟩=some (.string s):=by rw[<-hU];exact e0
      have g1:U.cell? ⟨b,1,none⟩=some (.int .i64 (q:Int)):=by rw[<-hU];exact e1
      have gf:U.frozen? ⟨b,1,none⟩=false:=by rw[<-hU];exact ef
      have HU:Hd (VS b s q 0 c U/\w.grownBy U (some b)):=by
       show VS b s q 0 c U/\w.grownBy U (some b);rw[<-hU];exact⟨HW.o.1.drew _,az HW.o.2 _⟩
      rw[hU];clear hU e0 e1 ef HW sl2;have iD:X.size=k:=by
       have h1:=XC.o;rw[<-O7.o]at h1;simpa using h1
      obtain⟨ad,had⟩:=zN (X.data.toList.all aY);have CD:Hd (∀w,Calls prog 149 #[.string X] w fun e w'=>e=.returned (.bool ad)/\w'=w):=fun w=>by rw[<-had];exact abQ X w (by have:=HN.o;omega)
      have oK:Hd (jh st T=(st && (ad && (decide (1<k) && decide (T[0]?=some 48))))):=by
       show _=_;rw[<-had,O7.o];unfold jh;rw[XC.o]
      clear had;have O8:Hd (i<=j/\j<=q/\q<=s.size):=by
       have a1:=HJ.o;have a2:=HQ.o;have a3:=HN.o;exact⟨a1.1,by omega,by omega⟩
      have hw:IntKind.i64.wrap ((q:Int)+1)=((q+1:Nat):Int):=by rw[IntKind.wrap_i64];have:=O8.o;omega
      obtain⟨QD,XD⟩:∃Q:Prop,(aX st s.data.toList (q+1)=R)=Q:=⟨_,rfl⟩;have XE:=ae XD;have HZ:Hd (¬k=0->(if jh st T=true then(2,j) else if s.data.toList[j+k]?=some 46 then aX st s.data.toList (j+k+1) else(0,j+k))=R):=fun hk0=>by
       have:=HST.o;rw[if_neg hk0]at this;exact this
      have HG:Hd (¬k=0->jh st T=false->(s.data.toList[q]?=some 46->QD)/\(¬s.data.toList[q]?=some 46->R=(0,q))):=fun hk0 h=>by
       have:=HZ.o hk0;rw[if_neg (by rw[h];decide),<-HQ.o]at this;exact⟨fun h2=>XE.o.mp (by rw[if_pos h2]at this;exact this),fun h2=>by rw[if_neg h2]at this;exact this.symm⟩
      have hbw:(k=0/\(st=false\/(st=true/\ad=false)\/(st=true/\ad=true)))\/(¬k=0/\∃JC:0<X.size,(jh st T=false/\(st=false\/(st=true/\ad=false)\/(st=true/\ad=true/\decide ((1:Int)<(X.size:Int))=false)\/(st=true/\ad=true/\decide ((1:Int)<(X.size:Int))=true/\((X[0].toNat:Int) == 48)=false)))\/(jh st T=true/\st=true/\ad=true/\decide ((1:Int)<(X.size:Int))=true/\((X[0].toNat:Int) == 48)=true)):=by
       by_cases hk0:k=0
       ·exact .inl ⟨hk0,by cases st;exact .inl rfl;cases ad;exact .inr (.inl ⟨rfl,rfl⟩);exact .inr (.inr ⟨rfl,rfl⟩)⟩
       ·have JC:0<X.size:=by omega
        have hT0:T[0]?=some X[0]:=by rw[<-O7.o,lZ X 0 JC]
        have hbz:=oK.o;rw[hT0,<-iD]at hbz;refine .inr ⟨hk0,JC,?_⟩
        cases st with
        |false=>exact .inl ⟨hbz,.inl rfl⟩
        |true=>
         cases ad with
         |false=>exact .inl ⟨hbz,.inr (.inl ⟨rfl,rfl⟩)⟩
         |true=>
          cases m2:decide ((1:Int)<(X.size:Int)) with
          |false=>exact .inl ⟨by rw[hbz,show decide (1<X.size)=false from by have:=of_decide_eq_false m2;simp;omega];rfl,.inr (.inr (.inl ⟨rfl,rfl,rfl⟩))⟩
          |true=>
           have h1:=of_decide_eq_true m2
           cases m3:((X[0].toNat:Int) == 48) with
           |false=>
            refine .inl ⟨?_,.inr (.inr (.inr ⟨rfl,rfl,rfl,rfl⟩))⟩;rw[hbz,show decide (some X[0]=some (48:UInt8))=false from by
             simp only[decide_eq_false_iff_not];intro e;have:=Option.some.inj e;rw[this]at m3;exact absurd m3 (by decide)]
            simp
           |true=>
            refine .inr ⟨?_,rfl,rfl,rfl,rfl⟩;rw[hbz,show decide (1<X.size)=true from by simp;omega,show X[0]=48 from UInt8.toNat_inj.1 (by simp at m3;show X[0].toNat=48;omega)];decide
      clear XD
      rcases hbw with⟨hk0,rfl|⟨rfl,rfl⟩|⟨rfl,rfl⟩⟩|⟨hk0,JC,⟨hb0,rfl|⟨rfl,rfl⟩|⟨rfl,rfl,m2⟩|⟨rfl,rfl,m2,m3⟩⟩|⟨hb1,rfl,rfl,m2,m3⟩⟩
      all_goals (
       first
        | (have m1:=vT (iD.trans hk0)
           have m2:decide ((1:Int)<(X.size:Int))=false:=by simp;omega
           have yl:Hd (R=(2,q)):=by
            show R=(2,q);rw[HQ.o,<-HST.o,if_pos hk0,hk0];rfl
           clear hk0 iD oK HST HZ HG;go_wp2_with (first|(go_at_call 149;refine(CD.o _).mono ?_;rintro e w' ⟨rfl,rfl⟩)|(go_at_call 91;refine(zO b s q c 2 q _ HU.o.1).mono ?_))
           all_goals (
            rintro e w1 ⟨rfl,hr,hg⟩;have hg2:=ak HU.o.2 hg;obtain⟨EE,cc,hr2,hv,hv2⟩:∃(EE:Int) (cc:Nat),VS b s q EE cc w1/\(EE=0->(s.data.toList[q]?=some 46->QD)/\(¬s.data.toList[q]?=some 46->R=(0,q)))/\(EE≠0->R=(EE,cc)):=⟨2,q,hr,fun h=>absurd h (by decide),fun _=>yl.o⟩;clear hr hg g0 g1 gf HU yl))
        | (have m1:=nR (fun h=>hk0 (iD.symm.trans h))
           first
           | (have yl:Hd (R=(2,j)):=by
               show R=(2,j);rw[<-HZ.o hk0,if_pos hb1]
              clear hb1 hk0 iD oK HST HZ HG;go_wp2_with (first|(go_at_call 149;refine(CD.o _).mono ?_;rintro e w' ⟨rfl,rfl⟩)|(go_at_call 91;refine(zO b s q c 2 j _ HU.o.1).mono ?_))
              all_goals (
               rintro e w1 ⟨rfl,hr,hg⟩;have hg2:=ak HU.o.2 hg;obtain⟨EE,cc,hr2,hv,hv2⟩:∃(EE:Int) (cc:Nat),VS b s q EE cc w1/\(EE=0->(s.data.toList[q]?=some 46->QD)/\(¬s.data.toList[q]?=some 46->R=(0,q)))/\(EE≠0->R=(EE,cc)):=⟨2,j,hr,fun h=>absurd h (by decide),fun _=>yl.o⟩;clear hr hg g0 g1 gf HU yl))
           | (have yl:Hd ((s.data.toList[q]?=some 46->QD)/\(¬s.data.toList[q]?=some 46->R=(0,q))):=HG.o hk0 hb0
              clear hb0 hk0 iD oK HST HZ HG;go_wp2_with (go_at_call 149;refine(CD.o _).mono ?_;rintro e w' ⟨rfl,hx⟩;obtain rfl:=hx.symm)
              all_goals (
               obtain⟨EE,cc,hr2,hv,hv2⟩:∃(EE:Int) (cc:Nat),VS b s q EE cc U/\(EE=0->(s.data.toList[q]?=some 46->QD)/\(¬s.data.toList[q]?=some 46->R=(0,q)))/\(EE≠0->R=(EE,cc)):=⟨0,c,HU.o.1,fun _=>yl.o,fun h=>absurd rfl h⟩;have hg2:=HU.o.2;obtain⟨w1,hw1⟩:=zN U;rw[hw1]at hr2 hg2 ⊢;clear hw1 g0 g1 gf HU yl)))
       all_goals (
        have y0:=hr2.c0;have y1:=hr2.c1;have yf:=hr2.f1;have HY:Hd (VS b s q EE cc w1/\w.grownBy w1 (some b)):=⟨hr2,hg2⟩;have HV:=ae hv;have mi:=ae hv2;clear hr2 hg2 hv hv2
        try go_wp2
        all_goals (
         go_quiet (fail);go_wp2;go_roundw
         case rel=>
          have:=O8.o
          first
           | exact⟨true,q+1,cc,EE,rfl,by omega,by have:=FP.o.2;omega,(HY.o.1.drew _).set1 (q+1),aT (az HY.o.2 _) _ _,fun h=>⟨fun _=>XE.o.mpr ((HV.o h).1 FP.o.1),fun h=>absurd h (by decide)⟩,mi.o⟩
           | exact⟨false,q,cc,EE,rfl,by omega,by omega,HY.o.1.drew _,az HY.o.2 _,fun h=>⟨fun h=>absurd h (by decide),fun _=>(HV.o h).2 HDf.o⟩,mi.o⟩
         case measure=>
          rw[gX.o];have:=O8.o
          first
           | (have:=FP.o.2
              refine Nat.lt_of_le_of_lt (Nat.le_of_eq (congrArg (fun x=>2*(s.size-x)+1) ((HY.o.1.drew nq).set1 (q+1)).place)) ?_;show 2*(s.size-(q+1))+1<2*(s.size-j)+1;omega)
           | (refine Nat.lt_of_le_of_lt (Nat.le_of_eq (congrArg (fun x=>2*(s.size-x)+0) (HY.o.1.drew nq).place)) ?_
              show 2*(s.size-q)+0<2*(s.size-j)+1;omega)))))
end Go.Proofs.YtbcfhgpfgdbjgaaGreatDoor
