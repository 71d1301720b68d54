import Derived.Test.YtnnbgjaphfhibaaGreatDoorM01
import Derived.Test.YtnnbgjaphfhibaaGreatDoorM02
import Derived.Deep.RegionHeld3
import Derived.OwnWalk
set_option linter.unusedVariables false
set_option linter.unusedSimpArgs false
set_option maxRecDepth 100000
set_option maxHeartbeats 6400000
open Go.Proofs.Tryz
namespace Go.Proofs.YtnnbgjaphfhibaaGreatDoor
open Go.RowKit Go.Shelf
theorem XT(s:ByteArray)(w:World)(hlim:s.size<=281474976710656) :
  Calls prog 217 #[.string s] w fun e w'=>e=.returned (.string s)/\Below w.heap.size w w':=Any.stringslite_Clone Tryz.lays316 s w hlim
theorem clone_any(s:ByteArray)(w:World)(hlim:s.size<=281474976710656) :
  Calls prog 194 #[.string s] w fun e w'=>e=.returned (.string s)/\w.grownBy w' none:=by
 have C:Hd (∀w,Calls prog 217 #[.string s] w fun e w'=>e=.returned (.string s)/\Below w.heap.size w w'):=fun w=>XT s w hlim
 clear hlim;go_enter func194,ntmps194;go_wp2_with (go_at_call 217;refine(C.o _).mono ?_;rintro e w1 ⟨rfl,hb⟩);go_ret;exact⟨rfl,⟨hb.os,hb.tape,hb.output,hb.size,fun k hk _=>hb.block k hk⟩⟩
open Go.RowKit Go.Shelf
def fZ(st:Bool)(l:List UInt8)(i:Nat):List UInt8:=if(aC st l i).1=0 then ag l i ((aC st l i).2-i) else[]
theorem XU(b:Nat)(s:ByteArray)(i:Nat)(w:World)(hi:i<=s.size)(h:RS b s i w)(hs:s.size<=281474976710656) :
  Calls prog 207 #[.pointer (some ⟨b,0,none⟩),.int .i64 0] w fun e w'=>e=.returned (.tuple #[.string ⟨(fZ true s.data.toList i).toArray⟩,.int .i64 (aC true s.data.toList i).1])/\RS b s (aC true s.data.toList i).2 w'/\w.grownBy w' (some b):=by
 have hsl:s.data.toList.length=s.size:=by simp
 have CS:Hd (Calls prog 226 #[.pointer (some ⟨b,0,none⟩),.int .i64 0] w fun e w'=>e=.returned (.int .i64 (aC true s.data.toList i).1)/\RS b s (aC true s.data.toList i).2 w'/\w.grownBy w' (some b)):=XI b s i w hi h (by omega);have d1:=h.c1;have hpt:=I7 true s.data.toList _ i rfl (by rw[hsl];exact hi);obtain⟨P,hP⟩:∃P,P=fZ true s.data.toList i:=⟨_,rfl⟩;unfold fZ at hP;have hP0:fZ true s.data.toList i=P:=hP.symm;rw[hP0];obtain⟨E,Q,jC⟩:∃E Q,aC true s.data.toList i=(E,Q):=⟨_,_,rfl⟩;rw[jC]at CS hpt hP;rw[jC];simp only at hpt hP;have HP:Hd (P=if E=0 then ag s.data.toList i (Q-i) else[]):=hP;have mM:Hd (E=0->i<Q/\Q<=s.size):=fun h=>by have:=hpt h;rw[hsl]at this;exact⟨this.1,this.2.1⟩
 have HS:Hd (s.size<=281474976710656/\s.data.toList.length=s.size):=⟨hs,hsl⟩;clear hP0 jC hpt hP hi h hs hsl
 cases hz:(E == 0) with
 | false =>
  have HZ:Hd (P=[]):=by show P=[];rw[HP.o,if_neg (by simpa using hz)]
  go_enter func207,ntmps207;go_wp2_with (go_at_call 226;refine CS.o.mono ?_);rintro e w1 rfl hr1 hg1;have HF:Hd (RS b s Q w1/\w.grownBy w1 (some b)):=⟨hr1,hg1⟩;clear hr1 hg1;go_wp2;refine bodyPost_ret (results_tmp2 rfl _ _ _) rfl ⟨?_,HF.o.1,HF.o.2⟩;rw[HZ.o];rfl
 | true =>
  have hE:E=0:=by simpa using hz
  have hq:=mM.o hE;obtain⟨X,hX⟩:∃X:ByteArray,X=⟨P.toArray⟩:=⟨_,rfl⟩;have oz:P=ag s.data.toList i (Q-i):=by rw[HP.o,if_pos hE]
  have sl:∀wx,(Instr.slice 9 (.string s) (some (.int .i64 (i:Int))) (some (.int .i64 (Q:Int))) none).run prog wx=.ok (.string X) wx:=fun wx=>by rw[hX,oz];exact lC s i Q (by omega) hq.2 wx
  have CC:Hd (∀w,Calls prog 194 #[.string X] w fun e w'=>e=.returned (.string X)/\w.grownBy w' none):=fun w=>clone_any X w (by
   rw[hX];show P.toArray.size<=_;have:=tN s.data.toList i (Q-i) (by have:=HS.o.2;omega);rw[<-oz]at this;have h2:=HS.o.1;simp;omega)
  have HX:Hd (X=⟨P.toArray⟩):=hX;subst hE;clear hX oz hq hz mM;go_enter func207,ntmps207;go_wp2_with (go_at_call 226;refine CS.o.mono ?_);rintro e w1 rfl hr1 hg1;have HR1:Hd (RS b s Q w1):=hr1;have ay:Hd (w.grownBy w1 (some b)):=hg1;have f0:=hr1.c0;have f1:=hr1.c1;clear hr1 hg1;go_wp2
  go_region_held3 (fun w'=>w'.cell? ⟨b,0,none⟩=some (.string s)/\w'.cell? ⟨b,1,none⟩=some (.int .i64 (Q:Int))) ((first|go_keep|(refine⟨?_,?_⟩<;>(refine World.grownBy.cell (by assumption) ?_ (by simp);assumption)))) (first|(go_at_call 194;refine(CC.o _).mono ?_;rintro e w2 ⟨rfl,hg2⟩))
  have HF:Hd (RS b s Q w2/\w.grownBy w2 (some b)):=⟨HR1.o.grow (Ak hg2),ah ay.o (EK (Ak hg2) _)⟩;clear hg2;go_wp2;refine bodyPost_ret (results_tmp2 rfl _ _ _) rfl ⟨?_,HF.o.1,HF.o.2⟩;rw[<-HX.o];rfl
theorem XV(b:Nat)(s:ByteArray)(i:Nat)(w:World)(hi:i<=s.size)(h:RS b s i w)(hs:s.size<=281474976710656) :
  Calls prog 207 #[.pointer (some ⟨b,0,none⟩),.int .i64 1] w fun e w'=>e=.returned (.tuple #[.string ⟨(fZ false s.data.toList i).toArray⟩,.int .i64 (aC false s.data.toList i).1])/\RS b s (aC false s.data.toList i).2 w'/\w.grownBy w' (some b):=by
 have hsl:s.data.toList.length=s.size:=by simp
 have CS:Hd (Calls prog 226 #[.pointer (some ⟨b,0,none⟩),.int .i64 1] w fun e w'=>e=.returned (.int .i64 (aC false s.data.toList i).1)/\RS b s (aC false s.data.toList i).2 w'/\w.grownBy w' (some b)):=XK b s i w hi h (by omega);have d1:=h.c1;have hpt:=I7 false s.data.toList _ i rfl (by rw[hsl];exact hi);obtain⟨P,hP⟩:∃P,P=fZ false s.data.toList i:=⟨_,rfl⟩;unfold fZ at hP;have hP0:fZ false s.data.toList i=P:=hP.symm;rw[hP0];obtain⟨E,Q,jC⟩:∃E Q,aC false s.data.toList i=(E,Q):=⟨_,_,rfl⟩;rw[jC]at CS hpt hP;rw[jC];simp only at hpt hP;have HP:Hd (P=if E=0 then ag s.data.toList i (Q-i) else[]):=hP;have mM:Hd (E=0->i<Q/\Q<=s.size):=fun h=>by have:=hpt h;rw[hsl]at this;exact⟨this.1,this.2.1⟩
 have HS:Hd (s.size<=281474976710656/\s.data.toList.length=s.size):=⟨hs,hsl⟩;clear hP0 jC hpt hP hi h hs hsl
 cases hz:(E == 0) with
 | false =>
  have HZ:Hd (P=[]):=by show P=[];rw[HP.o,if_neg (by simpa using hz)]
  go_enter func207,ntmps207;go_wp2_with (go_at_call 226;refine CS.o.mono ?_);rintro e w1 rfl hr1 hg1;have HF:Hd (RS b s Q w1/\w.grownBy w1 (some b)):=⟨hr1,hg1⟩;clear hr1 hg1;go_wp2;refine bodyPost_ret (results_tmp2 rfl _ _ _) rfl ⟨?_,HF.o.1,HF.o.2⟩;rw[HZ.o];rfl
 | true =>
  have hE:E=0:=by simpa using hz
  have hq:=mM.o hE;obtain⟨X,hX⟩:∃X:ByteArray,X=⟨P.toArray⟩:=⟨_,rfl⟩;have oz:P=ag s.data.toList i (Q-i):=by rw[HP.o,if_pos hE]
  have sl:∀wx,(Instr.slice 9 (.string s) (some (.int .i64 (i:Int))) (some (.int .i64 (Q:Int))) none).run prog wx=.ok (.string X) wx:=fun wx=>by rw[hX,oz];exact lC s i Q (by omega) hq.2 wx
  have CC:Hd (∀w,Calls prog 194 #[.string X] w fun e w'=>e=.returned (.string X)/\w.grownBy w' none):=fun w=>clone_any X w (by
   rw[hX];show P.toArray.size<=_;have:=tN s.data.toList i (Q-i) (by have:=HS.o.2;omega);rw[<-oz]at this;have h2:=HS.o.1;simp;omega)
  have HX:Hd (X=⟨P.toArray⟩):=hX;subst hE;clear hX oz hq hz mM;go_enter func207,ntmps207;go_wp2_with (go_at_call 226;refine CS.o.mono ?_);rintro e w1 rfl hr1 hg1;have HR1:Hd (RS b s Q w1):=hr1;have ay:Hd (w.grownBy w1 (some b)):=hg1;have f0:=hr1.c0;have f1:=hr1.c1;clear hr1 hg1;go_wp2
  go_region_held3 (fun w'=>w'.cell? ⟨b,0,none⟩=some (.string s)/\w'.cell? ⟨b,1,none⟩=some (.int .i64 (Q:Int))) ((first|go_keep|(refine⟨?_,?_⟩<;>(refine World.grownBy.cell (by assumption) ?_ (by simp);assumption)))) (first|(go_at_call 194;refine(CC.o _).mono ?_;rintro e w2 ⟨rfl,hg2⟩))
  have HF:Hd (RS b s Q w2/\w.grownBy w2 (some b)):=⟨HR1.o.grow (Ak hg2),ah ay.o (EK (Ak hg2) _)⟩;clear hg2;go_wp2;refine bodyPost_ret (results_tmp2 rfl _ _ _) rfl ⟨?_,HF.o.1,HF.o.2⟩;rw[<-HX.o];rfl
open Go.RowKit
def aS(l:List UInt8)(i:Nat):Int × Nat × List UInt8 × List UInt8 :=
 if(bC 45 true l i).1=0 then
  (if(bC 43 false l (bC 45 true l i).2.1).1=0 then(0,(bC 43 false l (bC 45 true l i).2.1).2.1,(bC 45 true l i).2.2,(bC 43 false l (bC 45 true l i).2.1).2.2)
  else((bC 43 false l (bC 45 true l i).2.1).1,(bC 43 false l (bC 45 true l i).2.1).2.1,[],[]))
 else((bC 45 true l i).1,(bC 45 true l i).2.1,[],[])
theorem vG{c:UInt8}{st:Bool}{l:List UInt8}{i:Nat}(h:l[i]?=some c):bC c st l i=((aC st l (i+1)).1,(aC st l (i+1)).2,fZ st l (i+1)):=by
 unfold bC fZ;rw[if_pos h]
 by_cases h0:(aC st l (i+1)).1=0
 ·rw[if_pos h0,if_pos h0,h0]
 ·rw[if_neg h0,if_neg h0]
theorem qE{c:UInt8}{st:Bool}{l:List UInt8}{i:Nat}(h:¬l[i]?=some c):bC c st l i=(0,i,[]):=by unfold bC;rw[if_neg h]
theorem Qa{st:Bool}{l:List UInt8}{i:Nat}(hi:i<=l.length)(h:(aC st l i).1=0):(aC st l i).2<=l.length:=(I7 st l _ i rfl hi h).2.1
theorem Qb{c:UInt8}{st:Bool}{l:List UInt8}{i:Nat}(hi:i<=l.length)(h:(bC c st l i).1=0):(bC c st l i).2.1<=l.length:=by
 by_cases hc:l[i]?=some c
 ·rw[vG hc]at h ⊢;exact Qa (by have:=(List.getElem?_eq_some_iff.1 hc).1;omega) h
 ·rw[qE hc];exact hi
theorem XW(b:Nat)(s:ByteArray)(i:Nat)(w:World)(hi:i<=s.size)(h:RS b s i w)(hs:s.size<=281474976710656) :
  Calls prog 168 #[.pointer (some ⟨b,0,none⟩)] w fun e w'=>e=.returned (.tuple #[.string ⟨(aS s.data.toList i).2.2.1.toArray⟩,.string ⟨(aS s.data.toList i).2.2.2.toArray⟩,.int .i64 (aS s.data.toList i).1])/\RS b s (aS s.data.toList i).2.1 w'/\w.grownBy w' (some b):=by
 have jD:Hd (s.data.toList.length=s.size):=by show s.data.toList.length=s.size;simp
 have TY:Hd (∀(c:UInt8) i w,s.data.toList[i]?=some c->RS b s i w->Calls prog 205 #[.pointer (some ⟨b,0,none⟩),.string ⟨#[c]⟩] w fun e w'=>e=.returned (.bool true)/\RS b s (i+1) w'/\w.grownBy w' (some b)):=fun c i w hc h=>Ar b s i c w hc h (by omega)
 have TN:Hd (∀(c:UInt8) i w,i<=s.size->¬s.data.toList[i]?=some c->RS b s i w->Calls prog 205 #[.pointer (some ⟨b,0,none⟩),.string ⟨#[c]⟩] w fun e w'=>e=.returned (.bool false)/\RS b s i w'/\w.grownBy w' (some b)):=fun c i w hi hc h=>Au b s i c w hi hc h (by omega)
 have PP:Hd (∀i w,i<=s.size->RS b s i w->Calls prog 207 #[.pointer (some ⟨b,0,none⟩),.int .i64 0] w fun e w'=>e=.returned (.tuple #[.string ⟨(fZ true s.data.toList i).toArray⟩,.int .i64 (aC true s.data.toList i).1])/\RS b s (aC true s.data.toList i).2 w'/\w.grownBy w' (some b)):=fun i w hi h=>XU b s i w hi h (by omega)
 have PB:Hd (∀i w,i<=s.size->RS b s i w->Calls prog 207 #[.pointer (some ⟨b,0,none⟩),.int .i64 1] w fun e w'=>e=.returned (.tuple #[.string ⟨(fZ false s.data.toList i).toArray⟩,.int .i64 (aC false s.data.toList i).1])/\RS b s (aC false s.data.toList i).2 w'/\w.grownBy w' (some b)):=fun i w hi h=>XV b s i w hi h (by omega)
 have HI:Hd (RS b s i w):=h;have jv:Hd (i<=s.size):=hi;obtain⟨E,J,P,B,hT⟩:∃E J P B,aS s.data.toList i=(E,J,P,B):=⟨_,_,_,_,rfl⟩;rw[hT];have HT:Hd (aS s.data.toList i=(E,J,P,B)):=hT;clear hT h hi hs
 cases hc1:decide (s.data.toList[i]?=some 45) with
 | false =>
  have hc':=of_decide_eq_false hc1;have ig:Hd (bC 45 true s.data.toList (i)=(0,i,[])):=qE hc';have CT:Hd (Calls prog 205 #[.pointer (some ⟨b,0,none⟩),.string ⟨#[45]⟩] w fun e w'=>e=.returned (.bool false)/\RS b s (i) w'/\w.grownBy w' (some b)):=TN.o 45 (i) w jv.o hc' HI.o;have HJ:Hd (i<=s.size):=jv.o;clear hc1 hc';go_enter func168,ntmps168;go_wp2_with (go_at_call 205;refine CT.o.mono ?_);rintro e u1 ⟨rfl,hr,hg⟩;have HR1:Hd (RS b s i u1):=hr;have ay:Hd (w.grownBy u1 (some b)):=hg;clear hr hg
  cases hc2:decide (s.data.toList[i]?=some 43) with
  | false =>
   have hc':=of_decide_eq_false hc2;have fJ:Hd (bC 43 false s.data.toList (i)=(0,i,[])):=qE hc';have CT:Hd (Calls prog 205 #[.pointer (some ⟨b,0,none⟩),.string ⟨#[43]⟩] u1 fun e w'=>e=.returned (.bool false)/\RS b s (i) w'/\u1.grownBy w' (some b)):=TN.o 43 (i) u1 HJ.o hc' HR1.o;clear hc2 hc';go_wp2_with (go_at_call 205;refine CT.o.mono ?_);rintro e v1 ⟨rfl,hr,hg⟩;have HF:Hd (RS b s (i) v1/\w.grownBy v1 (some b)):=⟨hr,ah ay.o hg⟩;clear hr hg;have HV:Hd (E=0/\J=i/\P=[]/\B=[]):=by
    have e:=HT.o;unfold aS at e;rw[ig.o]at e;simp only[if_true]at e;rw[fJ.o]at e;simp only[if_true]at e;exact⟨(congrArg Prod.fst e).symm,(congrArg (·.2.1) e).symm,(congrArg (·.2.2.1) e).symm,(congrArg (·.2.2.2) e).symm⟩
   go_wp2;refine bodyPost_ret (results_tmp3 rfl _ _ _) rfl ⟨?_,by rw[HV.o.2.1];exact HF.o.1,HF.o.2⟩;rw[HV.o.1,HV.o.2.2.1,HV.o.2.2.2];rfl
  | true =>
   have hc':=of_decide_eq_true hc2;have hO2:bC 43 false s.data.toList (i)=((aC false s.data.toList (i+1)).1,(aC false s.data.toList (i+1)).2,fZ false s.data.toList (i+1)):=vG hc';have CT:Hd (Calls prog 205 #[.pointer (some ⟨b,0,none⟩),.string ⟨#[43]⟩] u1 fun e w'=>e=.returned (.bool true)/\RS b s (i+1) w'/\u1.grownBy w' (some b)):=TY.o 43 (i) u1 hc' HR1.o;have HJ2:Hd (i+1<=s.size):=by have:=(List.getElem?_eq_some_iff.1 hc').1;rw[jD.o]at this;exact this
   have CB:Hd (∀w,RS b s (i+1) w->Calls prog 207 #[.pointer (some ⟨b,0,none⟩),.int .i64 1] w fun e w'=>e=.returned (.tuple #[.string ⟨(fZ false s.data.toList (i+1)).toArray⟩,.int .i64 (aC false s.data.toList (i+1)).1])/\RS b s (aC false s.data.toList (i+1)).2 w'/\w.grownBy w' (some b)):=fun w h=>PB.o (i+1) w HJ2.o h
   obtain⟨E2,J2,hE2⟩:∃E J,aC false s.data.toList (i+1)=(E,J):=⟨_,_,rfl⟩;obtain⟨P2,hP2⟩:∃P,fZ false s.data.toList (i+1)=P:=⟨_,rfl⟩;have oz:¬E2=0->P2=[]:=fun h=>by rw[<-hP2];unfold fZ;rw[hE2,if_neg h]
   rw[hE2,hP2]at CB hO2;simp only at CB hO2;have fJ:Hd (bC 43 false s.data.toList (i)=(E2,J2,P2)):=hO2;have yT:Hd (¬E2=0->P2=[]):=oz;clear hc2 hc' hE2 hP2 hO2 oz;go_wp2_with (go_at_call 205;refine CT.o.mono ?_);rintro e v1 ⟨rfl,hr,hg⟩;have Jj:Hd (RS b s (i+1) v1):=hr;have Jk:Hd (w.grownBy v1 (some b)):=ah ay.o hg;clear hr hg;have Jl:Hd (Calls prog 207 #[.pointer (some ⟨b,0,none⟩),.int .i64 1] v1 fun e w'=>e=.returned (.tuple #[.string ⟨P2.toArray⟩,.int .i64 E2])/\RS b s J2 w'/\v1.grownBy w' (some b)):=CB.o v1 Jj.o;go_wp2_with (go_at_call 207;refine Jl.o.mono ?_);rintro e v2 ⟨rfl,hr,hg⟩;have HF:Hd (RS b s J2 v2/\w.grownBy v2 (some b)):=⟨hr,ah Jk.o hg⟩;clear hr hg
   cases hz2:(E2 == 0) with
   | false =>
    have h0:¬E2=0:=by simpa using hz2
    have HV:Hd (E=E2/\J=J2/\P=[]/\B=[]):=by
     have e:=HT.o;unfold aS at e;rw[ig.o]at e;simp only[if_true]at e;rw[fJ.o]at e;simp only[if_neg h0]at e;exact⟨(congrArg Prod.fst e).symm,(congrArg (·.2.1) e).symm,(congrArg (·.2.2.1) e).symm,(congrArg (·.2.2.2) e).symm⟩
    clear h0;go_wp2;refine bodyPost_ret (results_tmp3 rfl _ _ _) rfl ⟨?_,by rw[HV.o.2.1];exact HF.o.1,HF.o.2⟩;rw[HV.o.1,HV.o.2.2.1,HV.o.2.2.2];rfl
   | true =>
    have h0:E2=0:=by simpa using hz2
    subst h0;have HV:Hd (E=0/\J=J2/\P=[]/\B=P2):=by
     have e:=HT.o;unfold aS at e;rw[ig.o]at e;simp only[if_true]at e;rw[fJ.o]at e;simp only[if_true]at e;exact⟨(congrArg Prod.fst e).symm,(congrArg (·.2.1) e).symm,(congrArg (·.2.2.1) e).symm,(congrArg (·.2.2.2) e).symm⟩
    go_wp2;refine bodyPost_ret (results_tmp3 rfl _ _ _) rfl ⟨?_,by rw[HV.o.2.1];exact HF.o.1,HF.o.2⟩;rw[HV.o.1,HV.o.2.2.1,HV.o.2.2.2];rfl
 | true =>
  have hc':=of_decide_eq_true hc1;have xH:bC 45 true s.data.toList (i)=((aC true s.data.toList (i+1)).1,(aC true s.data.toList (i+1)).2,fZ true s.data.toList (i+1)):=vG hc';have CT:Hd (Calls prog 205 #[.pointer (some ⟨b,0,none⟩),.string ⟨#[45]⟩] w fun e w'=>e=.returned (.bool true)/\RS b s (i+1) w'/\w.grownBy w' (some b)):=TY.o 45 (i) w hc' HI.o;have qF:Hd (i+1<=s.size):=by have:=(List.getElem?_eq_some_iff.1 hc').1;rw[jD.o]at this;exact this
  have CA:Hd (∀w,RS b s (i+1) w->Calls prog 207 #[.pointer (some ⟨b,0,none⟩),.int .i64 0] w fun e w'=>e=.returned (.tuple #[.string ⟨(fZ true s.data.toList (i+1)).toArray⟩,.int .i64 (aC true s.data.toList (i+1)).1])/\RS b s (aC true s.data.toList (i+1)).2 w'/\w.grownBy w' (some b)):=fun w h=>PP.o (i+1) w qF.o h
  have Jm:Hd ((aC true s.data.toList (i+1)).1=0->(aC true s.data.toList (i+1)).2<=s.size):=fun h=>by have:=Qa (st:=true) (l:=s.data.toList) (i:=i+1) (by rw[jD.o];exact qF.o) h;rw[jD.o]at this;exact this
  obtain⟨E1,J1,hE1⟩:∃E J,aC true s.data.toList (i+1)=(E,J):=⟨_,_,rfl⟩;obtain⟨P1,hP1⟩:∃P,fZ true s.data.toList (i+1)=P:=⟨_,rfl⟩;rw[hE1,hP1]at CA xH;rw[hE1]at Jm;simp only at CA xH Jm;have ig:Hd (bC 45 true s.data.toList (i)=(E1,J1,P1)):=xH;clear hc1 hc' hE1 hP1 xH;go_enter func168,ntmps168;go_wp2_with (go_at_call 205;refine CT.o.mono ?_);rintro e u1 ⟨rfl,hr,hg⟩;have Jn:Hd (RS b s (i+1) u1):=hr;have Jo:Hd (w.grownBy u1 (some b)):=hg;clear hr hg;have XX:Hd (Calls prog 207 #[.pointer (some ⟨b,0,none⟩),.int .i64 0] u1 fun e w'=>e=.returned (.tuple #[.string ⟨P1.toArray⟩,.int .i64 E1])/\RS b s J1 w'/\u1.grownBy w' (some b)):=CA.o u1 Jn.o;go_wp2_with (go_at_call 207;refine XX.o.mono ?_);rintro e u2 ⟨rfl,hr,hg⟩;have HR1:Hd (RS b s J1 u2):=hr;have ay:Hd (w.grownBy u2 (some b)):=ah Jo.o hg;clear hr hg
  cases hz1:(E1 == 0) with
  | false =>
   have h0:¬E1=0:=by simpa using hz1
   have HV:Hd (E=E1/\J=J1/\P=[]/\B=[]):=by
    have e:=HT.o;unfold aS at e;rw[ig.o]at e;simp only[if_neg h0]at e;exact⟨(congrArg Prod.fst e).symm,(congrArg (·.2.1) e).symm,(congrArg (·.2.2.1) e).symm,(congrArg (·.2.2.2) e).symm⟩
   clear h0;go_wp2;refine bodyPost_ret (results_tmp3 rfl _ _ _) rfl ⟨?_,by rw[HV.o.2.1];exact HR1.o,ay.o⟩;rw[HV.o.1,HV.o.2.2.1,HV.o.2.2.2];rfl
  | true =>
   have h0:E1=0:=by simpa using hz1
   subst h0;have HJ:Hd (J1<=s.size):=Jm.o rfl;clear hz1
   cases hc2:decide (s.data.toList[J1]?=some 43) with
   | false =>
    have hc':=of_decide_eq_false hc2;have fJ:Hd (bC 43 false s.data.toList (J1)=(0,J1,[])):=qE hc';have CT:Hd (Calls prog 205 #[.pointer (some ⟨b,0,none⟩),.string ⟨#[43]⟩] u2 fun e w'=>e=.returned (.bool false)/\RS b s (J1) w'/\u2.grownBy w' (some b)):=TN.o 43 (J1) u2 HJ.o hc' HR1.o;clear hc2 hc';go_wp2_with (go_at_call 205;refine CT.o.mono ?_);rintro e v1 ⟨rfl,hr,hg⟩;have HF:Hd (RS b s (J1) v1/\w.grownBy v1 (some b)):=⟨hr,ah ay.o hg⟩;clear hr hg;have HV:Hd (E=0/\J=J1/\P=P1/\B=[]):=by
     have e:=HT.o;unfold aS at e;rw[ig.o]at e;simp only[if_true]at e;rw[fJ.o]at e;simp only[if_true]at e;exact⟨(congrArg Prod.fst e).symm,(congrArg (·.2.1) e).symm,(congrArg (·.2.2.1) e).symm,(congrArg (·.2.2.2) e).symm⟩
    go_wp2;refine bodyPost_ret (results_tmp3 rfl _ _ _) rfl ⟨?_,by rw[HV.o.2.1];exact HF.o.1,HF.o.2⟩;rw[HV.o.1,HV.o.2.2.1,HV.o.2.2.2];rfl
   | true =>
    have hc':=of_decide_eq_true hc2;have hO2:bC 43 false s.data.toList (J1)=((aC false s.data.toList (J1+1)).1,(aC false s.data.toList (J1+1)).2,fZ false s.data.toList (J1+1)):=vG hc';have CT:Hd (Calls prog 205 #[.pointer (some ⟨b,0,none⟩),.string ⟨#[43]⟩] u2 fun e w'=>e=.returned (.bool true)/\RS b s (J1+1) w'/\u2.grownBy w' (some b)):=TY.o 43 (J1) u2 hc' HR1.o;have HJ2:Hd (J1+1<=s.size):=by have:=(List.getElem?_eq_some_iff.1 hc').1;rw[jD.o]at this;exact this
    have CB:Hd (∀w,RS b s (J1+1) w->Calls prog 207 #[.pointer (some ⟨b,0,none⟩),.int .i64 1] w fun e w'=>e=.returned (.tuple #[.string ⟨(fZ false s.data.toList (J1+1)).toArray⟩,.int .i64 (aC false s.data.toList (J1+1)).1])/\RS b s (aC false s.data.toList (J1+1)).2 w'/\w.grownBy w' (some b)):=fun w h=>PB.o (J1+1) w HJ2.o h
    obtain⟨E2,J2,hE2⟩:∃E J,aC false s.data.toList (J1+1)=(E,J):=⟨_,_,rfl⟩;obtain⟨P2,hP2⟩:∃P,fZ false s.data.toList (J1+1)=P:=⟨_,rfl⟩;have oz:¬E2=0->P2=[]:=fun h=>by rw[<-hP2];unfold fZ;rw[hE2,if_neg h]
    rw[hE2,hP2]at CB hO2;simp only at CB hO2;have fJ:Hd (bC 43 false s.data.toList (J1)=(E2,J2,P2)):=hO2;have yT:Hd (¬E2=0->P2=[]):=oz;clear hc2 hc' hE2 hP2 hO2 oz;go_wp2_with (go_at_call 205;refine CT.o.mono ?_);rintro e v1 ⟨rfl,hr,hg⟩;have Jj:Hd (RS b s (J1+1) v1):=hr;have Jk:Hd (w.grownBy v1 (some b)):=ah ay.o hg;clear hr hg;have Jl:Hd (Calls prog 207 #[.pointer (some ⟨b,0,none⟩),.int .i64 1] v1 fun e w'=>e=.returned (.tuple #[.string ⟨P2.toArray⟩,.int .i64 E2])/\RS b s J2 w'/\v1.grownBy w' (some b)):=CB.o v1 Jj.o;go_wp2_with (go_at_call 207;refine Jl.o.mono ?_);rintro e v2 ⟨rfl,hr,hg⟩;have HF:Hd (RS b s J2 v2/\w.grownBy v2 (some b)):=⟨hr,ah Jk.o hg⟩;clear hr hg
    cases hz2:(E2 == 0) with
    | false =>
     have h0:¬E2=0:=by simpa using hz2
     have HV:Hd (E=E2/\J=J2/\P=[]/\B=[]):=by
      have e:=HT.o;unfold aS at e;rw[ig.o]at e;simp only[if_true]at e;rw[fJ.o]at e;simp only[if_neg h0]at e;exact⟨(congrArg Prod.fst e).symm,(congrArg (·.2.1) e).symm,(congrArg (·.2.2.1) e).symm,(congrArg (·.2.2.2) e).symm⟩
     clear h0;go_wp2;refine bodyPost_ret (results_tmp3 rfl _ _ _) rfl ⟨?_,by rw[HV.o.2.1];exact HF.o.1,HF.o.2⟩;rw[HV.o.1,HV.o.2.2.1,HV.o.2.2.2];rfl
    | true =>
     have h0:E2=0:=by simpa using hz2
     subst h0;have HV:Hd (E=0/\J=J2/\P=P1/\B=P2):=by
      have e:=HT.o;unfold aS at e;rw[ig.o]at e;simp only[if_true]at e;rw[fJ.o]at e;simp only[if_true]at e;exact⟨(congrArg Prod.fst e).symm,(congrArg (·.2.1) e).symm,(congrArg (·.2.2.1) e).symm,(congrArg (·.2.2.2) e).symm⟩
     go_wp2;refine bodyPost_ret (results_tmp3 rfl _ _ _) rfl ⟨?_,by rw[HV.o.2.1];exact HF.o.1,HF.o.2⟩;rw[HV.o.1,HV.o.2.2.1,HV.o.2.2.2];rfl
open Go.RowKit
def VX(v:Nat)(y1 y2 y3:Int)(x4 x5:ByteArray)(w:World):Prop:=w.heap[v]?=some (.cells #[.int .i64 y1,.int .i64 y2,.int .i64 y3,.string x4,.string x5] 147 (0,0))
theorem VX.cells{v:Nat}{y1 y2 y3:Int}{x4 x5:ByteArray}{w:World}(h:VX v y1 y2 y3 x4 x5 w):w.cell? ⟨v,0,none⟩=some (.int .i64 y1)/\w.cell? ⟨v,1,none⟩=some (.int .i64 y2)/\w.cell? ⟨v,2,none⟩=some (.int .i64 y3)/\w.cell? ⟨v,3,none⟩=some (.string x4)/\w.cell? ⟨v,4,none⟩=some (.string x5) :=
 ⟨by rw[af h];rfl,by rw[af h];rfl,by rw[af h];rfl,by rw[af h];rfl,by rw[af h];rfl⟩
theorem VX.f{v:Nat}{y1 y2 y3:Int}{x4 x5:ByteArray}{w:World}(h:VX v y1 y2 y3 x4 x5 w)(o:Nat):w.frozen? ⟨v,o,none⟩=false:=Lib.frozen_of_heap h o
theorem VX.grow{b v:Nat}{y1 y2 y3:Int}{x4 x5:ByteArray}{w w':World}(h:VX v y1 y2 y3 x4 x5 w)(hg:w.grownBy w' (some b))(hn:v≠b):VX v y1 y2 y3 x4 x5 w':=by
 unfold VX at h ⊢;rw[hg.block v ((jU h)) (by simpa using hn)];exact h
theorem VX.set3{v:Nat}{y1 y2 y3:Int}{x4 x5:ByteArray}{w:World}(h:VX v y1 y2 y3 x4 x5 w)(z:ByteArray):VX v y1 y2 y3 z x5 (w.setCell ⟨v,3,none⟩ (.string z)):=by
 unfold VX at h ⊢;simp[World.setCell,Array.getElem?_modify,h]
theorem VX.set4{v:Nat}{y1 y2 y3:Int}{x4 x5:ByteArray}{w:World}(h:VX v y1 y2 y3 x4 x5 w)(z:ByteArray):VX v y1 y2 y3 x4 z (w.setCell ⟨v,4,none⟩ (.string z)):=by
 unfold VX at h ⊢;simp[World.setCell,Array.getElem?_modify,h]
theorem VX.other{v u:Nat}{y1 y2 y3:Int}{x4 x5:ByteArray}{w:World}(h:VX v y1 y2 y3 x4 x5 w)(hn:v≠u)(o:Nat)(x:Value):VX v y1 y2 y3 x4 x5 (w.setCell ⟨u,o,none⟩ x):=by
 unfold VX at h ⊢;rw[<-h];exact heap_setCell_other w _ v x hn
def tX(w:World)(A:Nat)(y1 y2 y3:Int)(x4 x5:ByteArray):World:=((((w.setCell ⟨A,0,none⟩ (.int .i64 y1)).setCell ⟨A,1,none⟩ (.int .i64 y2)).setCell ⟨A,2,none⟩ (.int .i64 y3)).setCell ⟨A,3,none⟩ (.string x4)).setCell ⟨A,4,none⟩ (.string x5)
theorem Jp{w:World}{A:Nat}{z1 z2 z3:Int}{z4 z5:ByteArray}(h:VX A z1 z2 z3 z4 z5 w)(y1 y2 y3:Int)(x4 x5:ByteArray):VX A y1 y2 y3 x4 x5 (tX w A y1 y2 y3 x4 x5):=by
 unfold VX at h ⊢;unfold tX;simp[World.setCell,Array.getElem?_modify,h]
theorem xI{b A:Nat}{w W:World}(h:w.grownBy W (some b))(hA:w.heap.size<=A)(o:Nat)(x:Value):w.grownBy (W.setCell ⟨A,o,none⟩ x) (some b) :=
 ⟨h.os,h.tape,h.output,by simpa [World.setCell] using h.size,fun k hk hn=>by rw[<-h.block k hk hn];exact heap_setCell_other W _ k x (by simp;omega)⟩
theorem XY{b A:Nat}{w W:World}(h:w.grownBy W (some b))(hA:w.heap.size<=A)(y1 y2 y3:Int)(x4 x5:ByteArray):w.grownBy (tX W A y1 y2 y3 x4 x5) (some b):=xI (xI (xI (xI (xI h hA _ _) hA _ _) hA _ _) hA _ _) hA _ _
theorem EQ{P:Program}{fn:Func}{p u:Tmp}{ty:TypeId}(h:fn.results=#[.cell p ty,.tmp u])(tmps:Array Value)(w:World)(g:Nat)(t:TypeId)(cs:Array Value)(fr:Nat × Nat)(d:TypeDesc)
  (hp:tmps.getD p undef=.pointer (some ⟨g,0,none⟩)) (hg:w.heap[g]?=some (.cells cs t fr)) (hu:P.underlying ty=some d) (hd:(match d with | .struct _ | .array _ _=>true|_=>false)=true) (hi:(P.info? ty).map (·.size)=some cs.size) :
  (results fn tmps).run P w=.ok (.tuple #[.agg cs,tmps.getD u undef]) w:=by
 rw[results_cell_tmp h,hp];simp[asAddr,run_loadVar_row w g t ty cs fr d hg hu hd hi,Result.andThen]
theorem pg{P:Program}{fn:Func}{p u r:Tmp}{ty:TypeId}(h:fn.results=#[.cell p ty,.tmp u,.tmp r])(tmps:Array Value)(w:World)(g:Nat)(t:TypeId)(cs:Array Value)(fr:Nat × Nat)(d:TypeDesc)
  (hp:tmps.getD p undef=.pointer (some ⟨g,0,none⟩)) (hg:w.heap[g]?=some (.cells cs t fr)) (hu:P.underlying ty=some d) (hd:(match d with | .struct _ | .array _ _=>true|_=>false)=true) (hi:(P.info? ty).map (·.size)=some cs.size) :
  (results fn tmps).run P w=.ok (.tuple #[.agg cs,tmps.getD u undef,tmps.getD r undef]) w:=by
 have hp':tmps[p]?.getD undef=.pointer (some ⟨g,0,none⟩):=by simpa using hp
 simp[results,h,Result.andThen,hp',asAddr,run_loadVar_row w g t ty cs fr d hg hu hd hi]
theorem vH{A:Nat}{w W:World}(h:w.grownBy W none)(hA:w.heap.size<=A)(o:Nat)(x:Value):w.grownBy (W.setCell ⟨A,o,none⟩ x) none :=
 ⟨h.os,h.tape,h.output,by simpa [World.setCell] using h.size,fun k hk hn=>by rw[<-h.block k hk hn];exact heap_setCell_other W _ k x (by simp;omega)⟩
theorem rP{A:Nat}{w W:World}(h:w.grownBy W none)(hA:w.heap.size<=A)(y1 y2 y3:Int)(x4 x5:ByteArray):w.grownBy (tX W A y1 y2 y3 x4 x5) none:=vH (vH (vH (vH (vH h hA _ _) hA _ _) hA _ _) hA _ _) hA _ _
open Go.RowKit
def Jq(b:Nat)(s:ByteArray)(w:World)(e:Ending)(w':World):Prop :=
 ∃(x1 x2 x3:Int) (x4 x5:List UInt8) (E:Int) (j:Nat),e=.returned (.tuple #[.agg #[.int .i64 x1,.int .i64 x2,.int .i64 x3,.string ⟨x4.toArray⟩,.string ⟨x5.toArray⟩],.int .i64 E]) ∧
  RS b s j w'/\w.grownBy w' (some b)/\E=(eQ s.data.toList).1/\(E=0->(eQ s.data.toList).2.2=⟨x1,x2,x3,x4,x5⟩)/\(E≠0->(eQ s.data.toList).2.1=j)
theorem XZ{b:Nat}{s:ByteArray}{i:Nat}{w:World}(h:RS b s i w)(o1 o2:Obj):RS b s i ((w.alloc o1).alloc o2):=h.grow (dw (dw (ax w none) o1) o2)
theorem ER(w:World)(o1 o2:Obj):((w.alloc o1).alloc o2).heap[w.heap.size+1]?=some o2:=by
 have:=heap_alloc_new (w.alloc o1) o2;simpa using this
theorem X0{b A:Nat}{s:ByteArray}{j:Nat}{w:World}(h:RS b s j w)(hn:b≠A)(y1 y2 y3:Int)(x4 x5:ByteArray):RS b s j (tX w A y1 y2 y3 x4 x5):=((((h.other hn _ _).other hn _ _).other hn _ _).other hn _ _).other hn _ _
theorem Qc(l:List UInt8):eQ l=if(bQ l).1=0 then(if(aS l (bQ l).2.1).1=0 then(if(aS l (bQ l).2.1).2.1<l.length then(2,(aS l (bQ l).2.1).2.1,zeroV) else(0,0,⟨(bQ l).2.2.1,(bQ l).2.2.2.1,(bQ l).2.2.2.2,(aS l (bQ l).2.1).2.2.1,(aS l (bQ l).2.1).2.2.2⟩)) else((aS l (bQ l).2.1).1,(aS l (bQ l).2.1).2.1,zeroV)) else((bQ l).1,(bQ l).2.1,zeroV):=by
 unfold eQ aS
 by_cases h1:(bQ l).1=0
 ·rw[if_pos h1,if_pos h1]
  by_cases h2:(bC 45 true l (bQ l).2.1).1=0
  ·simp only[if_pos h2]
   by_cases h3:(bC 43 false l (bC 45 true l (bQ l).2.1).2.1).1=0
   ·simp only[if_pos h3,if_true]
   ·simp only[if_neg h3]
  ·simp only[if_neg h2]
 ·rw[if_neg h1,if_neg h1]
theorem X4(b:Nat)(s:ByteArray)(w:World)(h:RS b s 0 w)(hs:s.size<=100) :
  Calls prog 127 #[.pointer (some ⟨b,0,none⟩)] w (Jq b s w):=by
 have HB:Hd (b<w.heap.size):=by obtain⟨t,h⟩:=h;exact(jU h)
 have HI:Hd (RS b s 0 w):=h;have CN:Hd (∀v w,RS b s 0 w->VB v 0 0 0 w->b≠v->Calls prog 167 #[.pointer (some ⟨b,0,none⟩),.pointer (some ⟨v,0,none⟩)] w fun e w'=>e=.returned (.int .i64 (bQ s.data.toList).1)/\RS b s (bQ s.data.toList).2.1 w'/\(∃y1 y2 y3,VB v y1 y2 y3 w'/\((bQ s.data.toList).1=0->(y1,y2,y3)=(bQ s.data.toList).2.2))/\G2 b v w w'):=fun v w h1 h2 h3=>XR b v s w h1 h2 h3 (by omega)
 have ES:Hd (∀i w,i<=s.size->RS b s i w->Calls prog 168 #[.pointer (some ⟨b,0,none⟩)] w fun e w'=>e=.returned (.tuple #[.string ⟨(aS s.data.toList i).2.2.1.toArray⟩,.string ⟨(aS s.data.toList i).2.2.2.toArray⟩,.int .i64 (aS s.data.toList i).1])/\RS b s (aS s.data.toList i).2.1 w'/\w.grownBy w' (some b)):=fun i w hi h=>XW b s i w hi h (by omega)
 have jD:Hd (s.data.toList.length=s.size):=by show s.data.toList.length=s.size;simp
 clear h hs;have qG:=Qc s.data.toList;obtain⟨E0,J0,X1,X2,X3,hN⟩:∃E J A B C,bQ s.data.toList=(E,J,A,B,C):=⟨_,_,_,_,_,rfl⟩;obtain⟨E1,J1,P1,B1,hT⟩:∃E J P B,aS s.data.toList J0=(E,J,P,B):=⟨_,_,_,_,rfl⟩;rw[hN]at CN qG;simp only at CN qG;rw[hT]at qG;simp only at qG;have yU:Hd (E0=0->J0<=s.size):=fun h0=>by
  have:=(Xk s.data.toList (by rw[hN];exact h0)).1;rw[hN,jD.o]at this;exact this
 have qF:Hd (J0<=s.size->E1=0->J1<=s.size):=fun hj h0=>by
  rw[<-jD.o]at hj ⊢;unfold aS at hT
  by_cases h2:(bC 45 true s.data.toList J0).1=0
  ·have l1:=Qb hj h2;rw[if_pos h2]at hT
   by_cases h3:(bC 43 false s.data.toList (bC 45 true s.data.toList J0).2.1).1=0
   ·rw[if_pos h3]at hT;have l2:=Qb l1 h3;have e:=congrArg (·.2.1) hT;simp only at e;rw[<-e];exact l2
   ·rw[if_neg h3]at hT;exact absurd ((congrArg Prod.fst hT).trans h0) h3
  ·rw[if_neg h2]at hT;exact absurd ((congrArg Prod.fst hT).trans h0) h2
 have X5:Hd (∀w,J0<=s.size->RS b s J0 w->Calls prog 168 #[.pointer (some ⟨b,0,none⟩)] w fun e w'=>e=.returned (.tuple #[.string ⟨P1.toArray⟩,.string ⟨B1.toArray⟩,.int .i64 E1])/\RS b s J1 w'/\w.grownBy w' (some b)):=fun w hj h=>by
  have:=ES.o J0 w hj h;rw[hT]at this;exact this
 have HV:Hd (eQ s.data.toList=if E0=0 then(if E1=0 then(if J1<s.data.toList.length then(2,J1,zeroV) else(0,0,⟨X1,X2,X3,P1,B1⟩)) else(E1,J1,zeroV)) else(E0,J0,zeroV)):=qG;clear hN hT qG ES;go_enter func127,ntmps127;go_wp2_with (go_at_call 167;refine(CN.o _ _ (XZ HI.o _ _) (ER w _ _) (by have:=HB.o;omega)).mono ?_);rintro e w1 ⟨rfl,hr1,⟨y1,y2,y3,hvb,hy⟩,hg1⟩;obtain⟨A,hA⟩:=zN (w.heap.size);have rQ:Hd (VX A 0 0 0 ⟨#[]⟩ ⟨#[]⟩ w1):=by
  show w1.heap[A]?=_;rw[<-hA,hg1.block w.heap.size (by simp;omega) (by have:=HB.o;omega) (by omega),Lib.alloc_old _ _ _ (by simp)];exact heap_alloc_new w _
 have HG:Hd (w.grownBy w1 (some b)):=by
  refine⟨hg1.os,hg1.tape,hg1.output,by have:=hg1.size;simp at this;omega,fun k hk hn=>?_⟩;rw[hg1.block k (by simp;omega) (by simpa using hn) (by omega),Lib.alloc_old _ _ _ (by simp;omega),Lib.alloc_old _ _ _ hk]
 have HR1:Hd (RS b s J0 w1):=hr1;have HY:Hd (E0=0->(y1,y2,y3)=(X1,X2,X3)):=hy;have HX:Hd (VX (A+1) y1 y2 y3 ⟨#[]⟩ ⟨#[]⟩ w1):=by rw[<-hA];exact hvb
 have AC:Hd (b<A):=by rw[<-hA];exact HB.o
 have AL:Hd (w.heap.size<=A):=Nat.le_of_eq hA;rw[hA];clear hA hr1 hvb hy hg1;have END:Hd (∀(W:World) (j:Nat) (z1 z2 z3:Int) (x4 x5:List UInt8) (E:Int),RS b s j W->VX A 0 0 0 ⟨#[]⟩ ⟨#[]⟩ W->w.grownBy W (some b)->E=(eQ s.data.toList).1->(E=0->(eQ s.data.toList).2.2=⟨z1,z2,z3,x4,x5⟩)->(E≠0->(eQ s.data.toList).2.1=j) →
   VX A z1 z2 z3 ⟨x4.toArray⟩ ⟨x5.toArray⟩ (tX W A z1 z2 z3 ⟨x4.toArray⟩ ⟨x5.toArray⟩)/\Jq b s w (.returned (.tuple #[.agg #[.int .i64 z1,.int .i64 z2,.int .i64 z3,.string ⟨x4.toArray⟩,.string ⟨x5.toArray⟩],.int .i64 E])) (tX W A z1 z2 z3 ⟨x4.toArray⟩ ⟨x5.toArray⟩)):=by
  intro W j z1 z2 z3 x4 x5 E h1 h2 h3 h4 h5 h6;exact⟨Jp h2 _ _ _ _ _,z1,z2,z3,x4,x5,E,j,rfl,X0 h1 (by have:=AC.o;omega) _ _ _ _ _,XY h3 AL.o _ _ _ _ _,h4,h5,h6⟩
 cases hz:(E0 == 0) with
 | false =>
  obtain⟨v0,v1,v2,v3,v4⟩:=HX.o.cells;obtain⟨ca0,ca1,ca2,ca3,ca4⟩:=rQ.o.cells;have ra:=rQ.o.f;have HE:Hd (E0=(eQ s.data.toList).1/\(eQ s.data.toList).2.1=J0/\E0≠0):=by
   have h0:¬E0=0:=by simpa using hz
   refine⟨?_,?_,h0⟩<;>(rw[HV.o,if_neg h0])
  go_wp2;obtain⟨hrow,hpost⟩:=END.o w1 J0 0 0 0 [] [] E0 HR1.o rQ.o HG.o HE.o.1 (fun h=>absurd h HE.o.2.2) (fun _=>HE.o.2.1);exact bodyPost_ret (EQ (p:=2) (u:=3) rfl _ _ A _ _ (0,0) _ rfl hrow underlying147 rfl (by kernel_rfl)) rfl hpost
 | true =>
  have hE:E0=0:=by simpa using hz
  subst hE;clear hz;have hj0:=yU.o rfl;have vI:Hd (eQ s.data.toList=if E1=0 then(if J1<s.data.toList.length then(2,J1,zeroV) else(0,0,⟨X1,X2,X3,P1,B1⟩)) else(E1,J1,zeroV)):=by
   show eQ s.data.toList=_;rw[HV.o,if_pos rfl]
  have X6:Hd (y1=X1/\y2=X2/\y3=X3):=by
   have hy:=HY.o rfl;simp only[Prod.mk.injEq]at hy;exact hy
  clear HV HY;have X7:Hd (Calls prog 168 #[.pointer (some ⟨b,0,none⟩)] w1 fun e w'=>e=.returned (.tuple #[.string ⟨P1.toArray⟩,.string ⟨B1.toArray⟩,.int .i64 E1])/\RS b s J1 w'/\w1.grownBy w' (some b)):=X5.o w1 hj0 HR1.o;have X8:Hd (E1=0->J1<=s.size):=qF.o hj0;clear hj0;go_wp2_with (first|(go_at_call 168;refine X7.o.mono ?_));rintro e u1 ⟨rfl,hr,hg⟩;have Jn:Hd (RS b s J1 u1):=hr;have Jr:Hd (VX (A+1) y1 y2 y3 ⟨#[]⟩ ⟨#[]⟩ u1):=HX.o.grow hg (by have:=AC.o;omega);have Js:Hd (VX A 0 0 0 ⟨#[]⟩ ⟨#[]⟩ u1):=rQ.o.grow hg (by have:=AC.o;omega);have Jo:Hd (w.grownBy u1 (some b)):=ah HG.o hg;clear hr hg;obtain⟨v0,v1,v2,v3,v4⟩:=Jr.o.cells;have rv:=Jr.o.f;obtain⟨ca0,ca1,ca2,ca3,ca4⟩:=Js.o.cells;have ra:=Js.o.f;obtain⟨U,hU⟩:=zN ((u1.setCell ⟨A+1,3,none⟩ (.string ⟨P1.toArray⟩)).setCell ⟨A+1,4,none⟩ (.string ⟨B1.toArray⟩));have ET:Hd (RS b s J1 U):=by
   show RS b s J1 U;rw[<-hU];exact(Jn.o.other (by have:=AC.o;omega) _ _).other (by have:=AC.o;omega) _ _
  have X9:Hd (VX (A+1) y1 y2 y3 ⟨P1.toArray⟩ ⟨B1.toArray⟩ U):=by
   show VX _ _ _ _ _ _ U;rw[<-hU];exact(Jr.o.set3 _).set4 _
  have Ju:Hd (VX A 0 0 0 ⟨#[]⟩ ⟨#[]⟩ U):=by
   show VX _ _ _ _ _ _ U;rw[<-hU];exact(Js.o.other (by omega) _ _).other (by omega) _ _
  have Jv:Hd (w.grownBy U (some b)):=by
   show w.grownBy U (some b);have:=AL.o;rw[<-hU];exact xI (xI Jo.o (by omega) _ _) (by omega) _ _
  have CE:Hd (Calls prog 169 #[.pointer (some ⟨b,0,none⟩)] ((u1.setCell ⟨A+1,3,none⟩ (.string ⟨P1.toArray⟩)).setCell ⟨A+1,4,none⟩ (.string ⟨B1.toArray⟩)) fun e w'=>e=.returned (.bool (decide (J1=s.size)))/\∃n,w'=U.drewN n):=by
   show Calls _ _ _ _ _;rw[hU];exact XG b s J1 U ET.o
  have HU:Hd ((u1.setCell ⟨A+1,3,none⟩ (.string ⟨P1.toArray⟩)).setCell ⟨A+1,4,none⟩ (.string ⟨B1.toArray⟩)=U):=hU;clear hU
  cases hz1:(E1 == 0) with
  | false =>
   have HE:Hd (E1=(eQ s.data.toList).1/\(eQ s.data.toList).2.1=J1/\E1≠0):=by
    have h0:¬E1=0:=by simpa using hz1
    refine⟨?_,?_,h0⟩<;>(rw[vI.o,if_neg h0])
   go_wp2;obtain⟨hrow,hpost⟩:=END.o U J1 0 0 0 [] [] E1 ET.o Ju.o Jv.o HE.o.1 (fun h=>absurd h HE.o.2.2) (fun _=>HE.o.2.1);rw[HU.o];exact bodyPost_ret (EQ (p:=2) (u:=3) rfl _ _ A _ _ (0,0) _ rfl hrow underlying147 rfl (by kernel_rfl)) rfl hpost
  | true =>
   have h0:E1=0:=by simpa using hz1
   subst h0;clear hz1;have hj:=X8.o rfl
   cases hJ:decide (J1=s.size) with
   | false =>
    rw[hJ]at CE;have HE:Hd ((2:Int)=(eQ s.data.toList).1/\(eQ s.data.toList).2.1=J1):=by
     have h1:J1<s.data.toList.length:=by rw[jD.o];have:=of_decide_eq_false hJ;omega
     refine⟨?_,?_⟩<;>(rw[vI.o,if_pos rfl,if_pos h1])
    clear hj hJ;go_wp2_with (go_at_call 169;refine CE.o.mono ?_);rintro e u2 ⟨rfl,n,hn⟩;have HR2:Hd (RS b s J1 u2):=by show RS b s J1 u2;rw[hn];exact ET.o.drew n
    have HA2:Hd (VX A 0 0 0 ⟨#[]⟩ ⟨#[]⟩ u2):=by show VX _ _ _ _ _ _ u2;rw[hn];exact Ju.o
    have HG2:Hd (w.grownBy u2 (some b)):=by show w.grownBy u2 (some b);rw[hn];exact aj Jv.o n
    clear hn v0 v1 v2 v3 v4 rv ca0 ca1 ca2 ca3 ca4 ra;obtain⟨ca0,ca1,ca2,ca3,ca4⟩:=HA2.o.cells;have ra:=HA2.o.f;go_wp2;obtain⟨hrow,hpost⟩:=END.o u2 J1 0 0 0 [] [] 2 HR2.o HA2.o HG2.o HE.o.1 (fun h=>absurd h (by decide)) (fun _=>HE.o.2);exact bodyPost_ret (EQ (p:=2) (u:=3) rfl _ _ A _ _ (0,0) _ rfl hrow underlying147 rfl (by kernel_rfl)) rfl hpost
   | true =>
    rw[hJ]at CE;have HE:Hd ((0:Int)=(eQ s.data.toList).1/\(eQ s.data.toList).2.2=⟨y1,y2,y3,P1,B1⟩):=by
     have h1:¬J1<s.data.toList.length:=by rw[jD.o];have:=of_decide_eq_true hJ;omega
     obtain⟨e1,e2,e3⟩:=X6.o;refine⟨?_,?_⟩<;>(rw[vI.o,if_pos rfl,if_neg h1])
     rw[e1,e2,e3]
    clear hj hJ;go_wp2_with (go_at_call 169;refine CE.o.mono ?_);rintro e u2 ⟨rfl,n,hn⟩;have HR2:Hd (RS b s J1 u2):=by show RS b s J1 u2;rw[hn];exact ET.o.drew n
    have HA2:Hd (VX A 0 0 0 ⟨#[]⟩ ⟨#[]⟩ u2):=by show VX _ _ _ _ _ _ u2;rw[hn];exact Ju.o
    have Ya:Hd (VX (A+1) y1 y2 y3 ⟨P1.toArray⟩ ⟨B1.toArray⟩ u2):=by show VX _ _ _ _ _ _ u2;rw[hn];exact X9.o
    have HG2:Hd (w.grownBy u2 (some b)):=by show w.grownBy u2 (some b);rw[hn];exact aj Jv.o n
    clear hn v0 v1 v2 v3 v4 rv ca0 ca1 ca2 ca3 ca4 ra;obtain⟨ca0,ca1,ca2,ca3,ca4⟩:=HA2.o.cells;have ra:=HA2.o.f;obtain⟨v0,v1,v2,v3,v4⟩:=Ya.o.cells;go_wp2;obtain⟨hrow,hpost⟩:=END.o u2 J1 y1 y2 y3 P1 B1 0 HR2.o HA2.o HG2.o HE.o.1 (fun _=>HE.o.2) (fun h=>absurd rfl h);exact bodyPost_ret (EQ (p:=2) (u:=3) rfl _ _ A _ _ (0,0) _ rfl hrow underlying147 rfl (by kernel_rfl)) rfl hpost
open Go.RowKit
theorem Yb(l:List UInt8)(h:¬(eQ l).1=0):(eQ l).2.2=zeroV:=by
 unfold eQ at h ⊢
 repeat' split
 all_goals first|rfl|(exfalso;simp_all)
theorem Yc(l:List UInt8)(h:(eQ l).1=0):(eQ l).2.1=0:=by
 unfold eQ at h ⊢
 repeat' split
 all_goals first|rfl|(exfalso;simp_all)
def Qd(v:Vv):Value:=.agg #[.int .i64 v.major,.int .i64 v.minor,.int .i64 v.patch,.string ⟨v.pre.toArray⟩,.string ⟨v.build.toArray⟩]
theorem parse_any(s:ByteArray)(w:World)(hs:s.size<2 ^ 62) :
  Calls prog 90 #[.string s] w fun e w'=>e=.returned (.tuple #[Qd (kH s.data.toList).2.2,.int .i64 (kH s.data.toList).1,.int .i64 ((kH s.data.toList).2.1:Nat)])/\w.grownBy w' none:=by
 by_cases h100:100<s.size
 ·have hp:kH s.data.toList=(1,0,zeroV):=by unfold kH;rw[if_pos (by simpa using h100)]
  rw[hp];clear hp;go_enter func90,ntmps90;go_wp2;exact bodyPost_ret (pg (p:=2) (u:=3) (r:=4) rfl _ _ w.heap.size _ _ (0,0) _ rfl (heap_alloc_new w _) underlying147 rfl (by kernel_rfl)) rfl ⟨rfl,dw (ax w none) _⟩
 ·have hp:kH s.data.toList=eQ s.data.toList:=by unfold kH;rw[if_neg (by simpa using h100)]
  rw[hp];have CV:Hd (∀b w,RS b s 0 w->Calls prog 127 #[.pointer (some ⟨b,0,none⟩)] w (Jq b s w)):=fun b w h=>X4 b s w h (by omega)
  clear hp hs;go_enter func90,ntmps90;go_wp2_with (go_at_call 127;refine(CV.o _ _ ⟨_,ER w _ _⟩).mono ?_);rintro e w1 ⟨x1,x2,x3,x4,x5,E,j,rfl,hr,hg,hE,hok,herr⟩;obtain⟨A,hA⟩:=zN (w.heap.size);have rQ:Hd (VX A 0 0 0 ⟨#[]⟩ ⟨#[]⟩ w1):=by
   show w1.heap[A]?=_;rw[<-hA,hg.block w.heap.size (by simp;omega) (by simp),Lib.alloc_old _ _ _ (by simp)];exact heap_alloc_new w _
  have HG:Hd (w.grownBy w1 none):=by
   refine⟨hg.os,hg.tape,hg.output,by have:=hg.size;simp at this;omega,fun k hk _=>?_⟩;rw[hg.block k (by simp;omega) (by simp;omega),Lib.alloc_old _ _ _ (by simp;omega),Lib.alloc_old _ _ _ hk]
  have AL:Hd (w.heap.size<=A):=Nat.le_of_eq hA;have HE:Hd (E=(eQ s.data.toList).1/\(E=0->(eQ s.data.toList).2.2=⟨x1,x2,x3,x4,x5⟩)/\(E≠0->(eQ s.data.toList).2.1=j)):=⟨hE,hok,herr⟩;rw[hA]at hr;have HR:Hd (RS (A+1) s j w1):=hr;rw[hA];clear hA hr hg hE hok herr;obtain⟨ca0,ca1,ca2,ca3,ca4⟩:=rQ.o.cells;have ra:=rQ.o.f;have r1:=HR.o.c1;have hlt1:A+1<w1.heap.size:=by obtain⟨t,h⟩:=HR.o;exact(jU h)
  have hlt0:A<w1.heap.size:=by omega
  cases hz:(E == 0) with
  | false =>
   go_wp2;obtain⟨W,hW⟩:=zN (w1.alloc (.cells #[.int .i64 x1,.int .i64 x2,.int .i64 x3,.string ⟨x4.toArray⟩,.string ⟨x5.toArray⟩] 147));have hgW:w1.grownBy W none:=by rw[<-hW];exact dw (ax w1 none) _
   have Jw:Hd (VX A 0 0 0 ⟨#[]⟩ ⟨#[]⟩ W):=by show W.heap[A]?=_;rw[hgW.block A hlt0 (by simp)];exact rQ.o
   have HRW:Hd (RS (A+1) s j W):=HR.o.grow hgW;have iD:Hd (w.grownBy W none):=ah HG.o hgW;rw[hW];clear hW hgW ca0 ca1 ca2 ca3 ca4 ra r1 hlt0 hlt1 HR HG rQ;obtain⟨ca0,ca1,ca2,ca3,ca4⟩:=Jw.o.cells;have ra:=Jw.o.f;have r1:=HRW.o.c1;have HF:Hd ((eQ s.data.toList).2.2=zeroV/\(eQ s.data.toList).2.1=j/\(eQ s.data.toList).1=E):=by
    have h0:¬E=0:=by simpa using hz
    have h:=HE.o;exact⟨Yb _ (by rw[<-h.1];exact h0),h.2.2 h0,h.1.symm⟩
   go_region
   go_wp2;refine bodyPost_ret (pg (p:=2) (u:=3) (r:=4) rfl _ _ A _ _ (0,0) _ rfl (Jp Jw.o 0 0 0 ⟨#[]⟩ ⟨#[]⟩) underlying147 rfl (by kernel_rfl)) rfl ⟨?_,aj (rP iD.o AL.o 0 0 0 ⟨#[]⟩ ⟨#[]⟩) 1⟩;rw[HF.o.1,HF.o.2.1,HF.o.2.2];rfl
  | true =>
   have hE0:E=0:=by simpa using hz
   have HF:Hd ((eQ s.data.toList).2.2=⟨x1,x2,x3,x4,x5⟩/\(eQ s.data.toList).2.1=0/\(eQ s.data.toList).1=0):=by
    have h:=HE.o;have h1:(eQ s.data.toList).1=0:=by rw[<-h.1];exact hE0
    exact⟨h.2.1 hE0,Yc _ h1,h1⟩
   subst hE0;go_wp2;refine bodyPost_ret (pg (p:=2) (u:=3) (r:=4) rfl _ _ A _ #[.int .i64 x1,.int .i64 x2,.int .i64 x3,.string ⟨x4.toArray⟩,.string ⟨x5.toArray⟩] (0,0) _ rfl ((Lib.alloc_old _ _ _ (by simpa [World.setCell] using hlt0)).trans (Jp rQ.o x1 x2 x3 ⟨x4.toArray⟩ ⟨x5.toArray⟩)) underlying147 rfl (by kernel_rfl)) rfl ⟨?_,dw (rP HG.o AL.o x1 x2 x3 ⟨x4.toArray⟩ ⟨x5.toArray⟩) _⟩;rw[HF.o.1,HF.o.2.1,HF.o.2.2];rfl
open Go.RowKit
def VS(b:Nat)(s:ByteArray)(i:Nat)(E:Int)(a:Nat)(w:World):Prop:=w.heap[b]?=some (.cells #[.string s,.int .i64 (i:Int),.int .i64 E,.int .i64 (a:Int)] 237 (0,0))
theorem VS.c0{b:Nat}{s:ByteArray}{i:Nat}{E:Int}{a:Nat}{w:World}(h:VS b s i E a w):w.cell? ⟨b,0,none⟩=some (.string s):=by rw[af h];rfl
theorem VS.c1{b:Nat}{s:ByteArray}{i:Nat}{E:Int}{a:Nat}{w:World}(h:VS b s i E a w):w.cell? ⟨b,1,none⟩=some (.int .i64 (i:Int)):=by rw[af h];rfl
theorem VS.c2{b:Nat}{s:ByteArray}{i:Nat}{E:Int}{a:Nat}{w:World}(h:VS b s i E a w):w.cell? ⟨b,2,none⟩=some (.int .i64 E):=by rw[af h];rfl
theorem VS.c3{b:Nat}{s:ByteArray}{i:Nat}{E:Int}{a:Nat}{w:World}(h:VS b s i E a w):w.cell? ⟨b,3,none⟩=some (.int .i64 (a:Int)):=by rw[af h];rfl
theorem VS.f1{b:Nat}{s:ByteArray}{i:Nat}{E:Int}{a:Nat}{w:World}(h:VS b s i E a w):w.frozen? ⟨b,1,none⟩=false:=Lib.frozen_of_heap h 1
theorem VS.f2{b:Nat}{s:ByteArray}{i:Nat}{E:Int}{a:Nat}{w:World}(h:VS b s i E a w):w.frozen? ⟨b,2,none⟩=false:=Lib.frozen_of_heap h 2
theorem VS.f3{b:Nat}{s:ByteArray}{i:Nat}{E:Int}{a:Nat}{w:World}(h:VS b s i E a w):w.frozen? ⟨b,3,none⟩=false:=Lib.frozen_of_heap h 3
theorem VS.drew{b:Nat}{s:ByteArray}{i:Nat}{E:Int}{a:Nat}{w:World}(h:VS b s i E a w)(n:Nat):VS b s i E a (w.drewN n):=h
theorem VS.set1{b:Nat}{s:ByteArray}{i:Nat}{E:Int}{a:Nat}{w:World}(h:VS b s i E a w)(j:Nat):VS b s j E a (w.setCell ⟨b,1,none⟩ (.int .i64 (j:Int))):=by
 unfold VS at h ⊢;simp[World.setCell,Array.getElem?_modify,h]
theorem VS.set2{b:Nat}{s:ByteArray}{i:Nat}{E:Int}{a:Nat}{w:World}(h:VS b s i E a w)(F:Int):VS b s i F a (w.setCell ⟨b,2,none⟩ (.int .i64 F)):=by
 unfold VS at h ⊢;simp[World.setCell,Array.getElem?_modify,h]
theorem VS.set3{b:Nat}{s:ByteArray}{i:Nat}{E:Int}{a:Nat}{w:World}(h:VS b s i E a w)(c:Nat):VS b s i E c (w.setCell ⟨b,3,none⟩ (.int .i64 (c:Int))):=by
 unfold VS at h ⊢;simp[World.setCell,Array.getElem?_modify,h]
theorem je(b:Nat)(s:ByteArray)(i:Nat)(a:Nat)(F:Int)(c:Nat)(w:World)(h:VS b s i 0 a w) :
  Calls prog 166 #[.pointer (some ⟨b,0,none⟩),.int .i64 F,.int .i64 (c:Int)] w fun e w'=>e=.returned (.tuple #[])/\VS b s i F c w'/\w.grownBy w' (some b):=by
 have h2:=h.c2;have h3:=h.c3;have f2:=h.f2;have f3:=h.f3;have HR:Hd (VS b s i 0 a w):=h;clear h;go_enter func166,ntmps166;go_wp2
 go_end0
 exact⟨rfl,(HR.o.set2 F).set3 c,aQ (aQ (ax w _) _ _) _ _⟩
theorem Qe(b:Nat)(s:ByteArray)(i:Nat)(E:Int)(hE:E≠0)(a:Nat)(F:Int)(c:Nat)(w:World)(h:VS b s i E a w) :
  Calls prog 166 #[.pointer (some ⟨b,0,none⟩),.int .i64 F,.int .i64 (c:Int)] w fun e w'=>e=.returned (.tuple #[])/\VS b s i E a w'/\w.grownBy w' (some b):=by
 have h2:=h.c2;have HR:Hd (VS b s i E a w):=h;have hn:(E == 0)=false:=by simpa using hE
 clear h hE;go_enter func166,ntmps166;go_wp2
 go_end0
 exact⟨rfl,HR.o,ax w _⟩
theorem Yd(b:Nat)(s:ByteArray)(i:Nat)(E:Int)(a:Nat)(c:UInt8)(w:World)(hc:s.data.toList[i]?=some c)(h:VS b s i E a w)(hs:s.size<2 ^ 62) :
  Calls prog 164 #[.pointer (some ⟨b,0,none⟩),.int .u8 (c.toNat:Int)] w fun e w'=>e=.returned (.tuple #[])/\VS b s (i+1) E a w'/\w.grownBy w' (some b):=by
 have h0:=h.c0;have h1:=h.c1;have f1:=h.f1;have HR:Hd (VS b s i E a w):=h;clear h;have hlt:i<s.size:=by have:=(List.getElem?_eq_some_iff.1 hc).1;simpa using this
 rw[kJ s i hlt]at hc;have hc':s[i]=c:=Option.some.inj hc;clear hc;subst hc';have hd:decide ((s.size:Int)<=(i:Int))=false:=by simp;omega
 have hw:IntKind.i64.wrap ((i:Int)+1)=((i+1:Nat):Int):=by rw[IntKind.wrap_i64];omega
 go_enter func164,ntmps164;go_wp2;go_quiet (fail);go_wp2
 go_end0
 exact⟨rfl,(HR.o.drew nq).set1 (i+1),aQ (aj (ax w _) _) _ _⟩
theorem Ye(b:Nat)(s:ByteArray)(i:Nat)(a:Nat)(c:UInt8)(w:World)(hi:i<=s.size)(hc:¬s.data.toList[i]?=some c)(h:VS b s i 0 a w)(hs:s.size<2 ^ 62) :
  Calls prog 164 #[.pointer (some ⟨b,0,none⟩),.int .u8 (c.toNat:Int)] w fun e w'=>e=.returned (.tuple #[])/\VS b s i 2 i w'/\w.grownBy w' (some b):=by
 have h0:=h.c0;have h1:=h.c1;have HR:Hd (VS b s i 0 a w):=h;clear h
 by_cases hlt:i<s.size
 ·rw[kJ s i hlt]at hc;have hne:s[i]≠c:=fun e=>hc (by rw[e])
  have hn:((s[i].toNat:Int) == (c.toNat:Int))=false:=by
   simp only[beq_eq_false_iff_ne,ne_eq];intro e;exact hne (UInt8.toNat_inj.1 (by omega))
  have hd:decide ((s.size:Int)<=(i:Int))=false:=by simp;omega
  have hm:((s[i].toNat:Int) != (c.toNat:Int))=true:=by rw[bne,hn];rfl
  clear hc hne;go_enter func164,ntmps164;go_wp2;go_quiet (fail);have e1:(w.drewN nq).cell? ⟨b,1,none⟩=some (.int .i64 (i:Int)):=h1;go_wp2_with (go_at_call 166;refine(je b s i a 2 i _ (HR.o.drew _)).mono ?_);rintro e w1 ⟨rfl,hr,hg⟩;go_wp2
  (try simp only[Exit.inBlock,Exit.then])
  refine bodyPost_ret (results_none rfl _ _ _) rfl ?_;exact⟨rfl,hr,ah (aj (ax w _) _) hg⟩
 ·have hd:decide ((s.size:Int)<=(i:Int))=true:=by simp;omega
  clear hc;go_enter func164,ntmps164;go_wp2;go_quiet (fail);have e1:(w.drewN nq).cell? ⟨b,1,none⟩=some (.int .i64 (i:Int)):=h1;go_wp2_with (go_at_call 166;refine(je b s i a 2 i _ (HR.o.drew _)).mono ?_);rintro e w1 ⟨rfl,hr,hg⟩;go_wp2
  (try simp only[Exit.inBlock,Exit.then])
  refine bodyPost_ret (results_none rfl _ _ _) rfl ?_;exact⟨rfl,hr,ah (aj (ax w _) _) hg⟩
end Go.Proofs.YtnnbgjaphfhibaaGreatDoor
