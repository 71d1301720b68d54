import Derived.Test.YtnnbgjaphfhibaaGreatDoorM03
import Derived.Test.YtnnbgjaphfhibaaGreatDoorM01
set_option linter.unusedVariables false
set_option linter.unusedSimpArgs false
set_option maxRecDepth 100000
set_option maxHeartbeats 6400000
open Go.Proofs.Tryz
namespace Go.Proofs.YtnnbgjaphfhibaaGreatDoor
open Go.RowKit
def vJ(n:Int)(c:UInt8):Int:=if n<=999999999 then 10*n+((c.toNat:Int)-48) else n
def jE(l:List UInt8):Int:=l.foldl vJ 0
theorem Qg(T:List UInt8)(m:Nat)(hm:m<T.length):jE (T.take (m+1))=vJ (jE (T.take m)) T[m]:=by
 rw[List.take_succ_eq_append_getElem hm];unfold jE;rw[List.foldl_append];rfl
theorem Yf(T:List UInt8)(h:T.all aI=true):∀m,m<=T.length->(0<=jE (T.take m)/\jE (T.take m)<=9999999999)/\(aW (T.take m)<=999999999->jE (T.take m)=aW (T.take m))/\(999999999<aW (T.take m)->999999999<jE (T.take m)):=by
 intro m
 induction m with
 | zero=>intro _;exact⟨⟨Int.le_refl 0,by show(0:Int)<=_;omega⟩,fun _=>rfl,fun h=>absurd h (by show ¬(999999999:Int)<0;omega)⟩
 | succ m ih =>
  intro hm;obtain⟨i1,i2,i3⟩:=ih (by omega);have hdg:=yO (List.all_eq_true.1 h T[m] (List.getElem_mem (by omega)));rw[Qg T m (by omega),P5 T m (by omega)];have hv0:0<=aW (T.take m):=EH _ (List.all_eq_true.2 (fun c hc=>List.all_eq_true.1 h c (List.mem_of_mem_take hc)));unfold vJ
  by_cases hb:aW (T.take m)<=999999999
  ·have e:=i2 hb;rw[e,if_pos hb];refine⟨⟨by omega,by omega⟩,fun _=>rfl,fun h=>h⟩
  ·have e:=i3 (by omega);rw[if_neg (by omega)];exact⟨i1,fun h=>by omega,fun _=>e⟩
theorem VS.place{b:Nat}{s:ByteArray}{i:Nat}{E:Int}{a:Nat}{w:World}(h:VS b s i E a w):placeOf b w=i:=by unfold placeOf;rw[h.c1];simp
def Jy(b:Nat)(s:ByteArray)(i:Nat)(w:World)(e:Ending)(w':World):Prop :=
 ∃(v:Int) (j:Nat) (E:Int) (c:Nat),e=.returned (.int .i64 v)/\VS b s j E c w'/\w.grownBy w' (some b)/\E=(rdNum s.data.toList i).1/\(E=0->v=(rdNum s.data.toList i).2.1/\j=(rdNum s.data.toList i).2.2/\j<=s.size)/\(E≠0->c=(rdNum s.data.toList i).2.2)
theorem Yg(b:Nat)(s:ByteArray)(i:Nat)(a:Nat)(w:World)(hi:i<=s.size)(h:VS b s i 0 a w)(hs:s.size<2 ^ 62) :
  Calls prog 163 #[.pointer (some ⟨b,0,none⟩)] w (Jy b s i w):=by
 have h1:=h.c1;have HR:Hd (VS b s i 0 a w):=h;have hsl:s.data.toList.length=s.size:=by simp
 have hle:i+runN aI s.data.toList i<=s.size:=by have:=rH aI s.data.toList i (by rw[hsl];exact hi);rw[hsl]at this;exact this
 have hln:=tN s.data.toList i (runN aI s.data.toList i) (by rw[hsl];exact hle);have hall:=EJ aI s.data.toList i;obtain⟨k,hk⟩:=zN (runN aI s.data.toList i);have HS:Hd (∀hj:i+k<s.size,aI s[i+k]=false):=by
  show ∀hj:i+k<s.size,aI s[i+k]=false;intro hj;have:=EG aI s.data.toList i (by rw[hk];simpa using hj);simp only[hk]at this;exact this
 rw[hk]at hle hln hall;obtain⟨T,hT⟩:=zN (ag s.data.toList i k);have Jz:Hd (∀m (hm:m<k) (h2:i+m<s.size) (h3:m<T.length),s[i+m]=T[m]):=by
  show ∀m (hm:m<k) (h2:i+m<s.size) (h3:m<T.length),s[i+m]=T[m];intro m hm h2 h3;have e1:T[m]?=s.data.toList[i+m]?:=by rw[<-hT];unfold ag;rw[List.getElem?_take_of_lt hm,List.getElem?_drop]
  rw[kJ s (i+m) h2,List.getElem?_eq_getElem h3]at e1;exact(Option.some.inj e1).symm
 rw[hT]at hln hall;have HP:Hd (∀(v:Int) (j:Nat) (E:Int) (c:Nat) (w':World),VS b s j E c w'->w.grownBy w' (some b) →
   (k=0/\E=2/\c=i\/¬k=0/\(1<k/\s.data.toList[i]?=some 48)/\E=2/\c=i\/¬k=0/\¬(1<k/\s.data.toList[i]?=some 48)/\aW T > 999999999/\E=3/\c=i\/¬k=0/\¬(1<k/\s.data.toList[i]?=some 48)/\¬aW T > 999999999/\E=0/\v=aW T/\j=i+k)->Jy b s i w (.returned (.int .i64 v)) w'):=by
  intro v j E c w' hv hg ho;refine⟨v,j,E,c,rfl,hv,hg,?_⟩;unfold rdNum;rw[hk,hT]
  rcases ho with⟨o1,rfl,rfl⟩|⟨o1,o2,rfl,rfl⟩|⟨o1,o2,o3,rfl,rfl⟩|⟨o1,o2,o3,rfl,rfl,rfl⟩
  ·rw[if_pos o1];exact⟨rfl,fun h=>absurd h (by decide),fun _=>rfl⟩
  ·rw[if_neg o1,if_pos o2];exact⟨rfl,fun h=>absurd h (by decide),fun _=>rfl⟩
  ·rw[if_neg o1,if_neg o2,if_pos o3];exact⟨rfl,fun h=>absurd h (by decide),fun _=>rfl⟩
  ·rw[if_neg o1,if_neg o2,if_neg o3];exact⟨rfl,fun _=>⟨rfl,rfl,hle⟩,fun h=>absurd rfl h⟩
 have HD:Hd (∀m j (hm:m<k) (hj:j=i+m) (h2:j<s.size),aI s[j]=true):=by
  show ∀m j (hm:m<k) (hj:j=i+m) (h2:j<s.size),aI s[j]=true;intro m j hm hj h2;subst hj;rw[Jz.o m hm h2 (by omega)];exact List.all_eq_true.1 hall _ (List.getElem_mem _)
 have Qh:Hd (∀m j (hm:m<k) (hj:j=i+m) (h2:j<s.size),jE (T.take (m+1))=vJ (jE (T.take m)) s[j]):=by
  show ∀m j (hm:m<k) (hj:j=i+m) (h2:j<s.size),jE (T.take (m+1))=vJ (jE (T.take m)) s[j];intro m j hm hj h2;subst hj;rw[Jz.o m hm h2 (by omega)];exact Qg T m (by omega)
 have HC:Hd (T.length=k/\∀m,m<=k->(0<=jE (T.take m)/\jE (T.take m)<=9999999999)/\(aW (T.take m)<=999999999->jE (T.take m)=aW (T.take m))/\(999999999<aW (T.take m)->999999999<jE (T.take m))):=⟨hln,fun m hm=>Yf T hall m (by omega)⟩;have HL:Hd (i+k<=s.size):=hle;clear hk hT hln hall h hsl hle hi;go_enter func163,ntmps163;go_wp2;go_loopw [4] (fun vn wr=>∃m j:Nat,j=i+m/\m<=k/\vn=.int .i64 (jE (T.take m))/\VS b s j 0 a wr/\w.grownBy wr (some b)) (fun _ wr=>s.size-placeOf b wr)
 case atStart=>exact⟨0,i,rfl,Nat.zero_le _,rfl,HR.o,ax _ _⟩
 case round =>
  obtain⟨m,j,hj,hmk,rfl,hrs,hgb⟩:=hrel;have d0:=hrs.c0;have d1:=hrs.c1;have df:=hrs.f1;have dm:Hd (VS b s j 0 a wr):=hrs;have aH:Hd (w.grownBy wr (some b)):=hgb;have hil:=HL.o;have hcb:=(HC.o.2 m hmk).1;clear hrs hgb h1 HR
  by_cases hlt:m<k
  ·have hjs:j<s.size:=by omega
   have hD:aI s[j]=true:=HD.o m j hlt hj hjs;have hdg:=yO hD;have iE:Hd (jE (T.take (m+1))=vJ (jE (T.take m)) s[j]):=Qh.o m j hlt hj hjs;have HK:Hd (m<k/\j=i+m/\j<s.size):=⟨hlt,hj,hjs⟩;obtain⟨v,hv⟩:∃v,v=jE (T.take m):=⟨_,rfl⟩;rw[<-hv]at hcb iE;rw[<-hv];clear hv hlt hil hmk hj;have hlt2:(j:Int)<(s.size:Int):=by omega
   have hw:IntKind.i64.wrap ((j:Int)+1)=((j+1:Nat):Int):=by rw[IntKind.wrap_i64];omega
   by_cases hb:v<=999999999
   ·have r1:IntKind.i64.wrap (10*v)=10*v:=by rw[IntKind.wrap_i64];omega
    have r2:IntKind.i64.wrap (10*v+(s[j].toNat:Int))=10*v+(s[j].toNat:Int):=by rw[IntKind.wrap_i64];omega
    have r3:IntKind.i64.wrap (10*v+(s[j].toNat:Int)-48)=10*v+(s[j].toNat:Int)-48:=by rw[IntKind.wrap_i64];omega
    have HN:Hd (10*v+(s[j].toNat:Int)-48=jE (T.take (m+1))):=by show _=_;rw[iE.o];unfold vJ;rw[if_pos hb];omega
    go_wp2;go_quiet (first|(go_at_call 122;exact Calls.quiet_of_same (ou _ _)));go_wp2;have eG:Hd (placeOf b wr=j):=dm.o.place;obtain⟨W,hW⟩:=zN (wr.drewN nq);have e0:W.cell? ⟨b,0,none⟩=some (.string s):=by rw[<-hW];exact d0
    have e1:W.cell? ⟨b,1,none⟩=some (.int .i64 (j:Int)):=by rw[<-hW];exact d1
    have ef:W.frozen? ⟨b,1,none⟩=false:=by rw[<-hW];exact df
    have HW:Hd (VS b s j 0 a W/\w.grownBy W (some b)):=by
     show VS b s j 0 a W/\w.grownBy W (some b);rw[<-hW];exact⟨dm.o.drew _,aj aH.o _⟩
    rw[hW];clear hW d0 d1 df dm aH;go_quiet (fail);go_wp2;go_roundw
    case rel=>exact⟨m+1,j+1,by have:=HK.o;omega,by have:=HK.o;omega,by rw[<-HN.o],(HW.o.1.drew _).set1 (j+1),aQ (aj HW.o.2 _) _ _⟩
    case measure =>
     have e2:=((HW.o.1.drew nq).set1 (j+1)).place;rw[eG.o];exact Nat.lt_of_le_of_lt (Nat.le_of_eq (congrArg (s.size - ·) e2)) (by omega)
   ·have HN:Hd (v=jE (T.take (m+1))):=by show _=_;rw[iE.o];unfold vJ;rw[if_neg hb]
    go_wp2;go_quiet (first|(go_at_call 122;exact Calls.quiet_of_same (ou _ _)));go_wp2;go_roundw
    case rel=>exact⟨m+1,j+1,by have:=HK.o;omega,by have:=HK.o;omega,by rw[<-HN.o],(dm.o.drew _).set1 (j+1),aQ (aj aH.o _) _ _⟩
    case measure =>
     have e1:=dm.o.place;have e2:=((dm.o.drew nq).set1 (j+1)).place;rw[e1];exact Nat.lt_of_le_of_lt (Nat.le_of_eq (congrArg (s.size - ·) e2)) (by omega)
  ·have afE:m=k:=by omega
   subst m;obtain⟨v,hv⟩:∃v,v=jE (T.take k):=⟨_,rfl⟩;have Qi:T.take k=T:=List.take_of_length_le (by rw[HC.o.1];exact Nat.le_refl _);have pz:Hd ((aW T<=999999999->v=aW T)/\(999999999<aW T->999999999<v)):=by
    have:=(HC.o.2 k hmk).2;rw[Qi]at this hv;show(aW T<=999999999->v=aW T)/\(999999999<aW T->999999999<v);rw[hv];exact this
   have hv0:k=0->v=0:=fun h=>by rw[hv,h];rfl
   rw[<-hv]at hcb;rw[<-hv];have yU:Hd (j=i+k/\i+k<=s.size):=⟨hj,hil⟩;clear hv Qi HD Qh HC Jz hlt hmk hil
   by_cases hjs:j<s.size
   ·have hD:aI s[j]=false:=by subst hj;exact HS.o hjs
    have hlt2:(j:Int)<(s.size:Int):=by omega
    clear HS HL hj;go_wp2;go_quiet (first|(go_at_call 122;exact Calls.quiet_of_same (ou _ _)));obtain⟨W,hW⟩:=zN (wr.drewN nq);have e0:W.cell? ⟨b,0,none⟩=some (.string s):=by rw[<-hW];exact d0
    have e1:W.cell? ⟨b,1,none⟩=some (.int .i64 (j:Int)):=by rw[<-hW];exact d1
    have ef:W.frozen? ⟨b,1,none⟩=false:=by rw[<-hW];exact df
    have HW:Hd (VS b s j 0 a W/\w.grownBy W (some b)):=by
     show VS b s j 0 a W/\w.grownBy W (some b);rw[<-hW];exact⟨dm.o.drew _,aj aH.o _⟩
    rw[hW];clear hW d0 d1 df dm aH;have hj:=yU.o.1;have hil:=yU.o.2;have q2:IntKind.i64.wrap ((j:Int)-(i:Int))=(k:Int):=by rw[IntKind.wrap_i64];omega
    by_cases hk0:k=0
    ·have q1:((j:Int) == (i:Int))=true:=by simp;omega
     have q5:decide ((999999999:Int)<v)=false:=by simp;have:=hv0 hk0;omega
     have HO:Hd (k=0):=hk0;clear hk0 hv0 hj hil q2;go_wp2_with (go_at_call 166;refine(je b s j a 2 i _ HW.o.1).mono ?_);rintro e w1 ⟨rfl,hr,hg⟩;go_wp2;go_ret;exact HP.o _ j 2 i _ hr (ah HW.o.2 hg) (Or.inl ⟨HO.o,rfl,rfl⟩)
    ·have q1:((j:Int) == (i:Int))=false:=by simp;omega
     have his:i<s.size:=by omega
     have hgd:=kJ s i his
     by_cases h1k:1<k
     ·have q3:decide ((1:Int)<(k:Int))=true:=by simp;omega
      cases q4:((s[i].toNat:Int) == 48) with
      | true =>
       have HO:Hd (¬k=0/\(1<k/\s.data.toList[i]?=some 48)):=⟨hk0,h1k,by rw[hgd];congr 1;exact UInt8.toNat_inj.1 (by simp at q4;show s[i].toNat=48;omega)⟩;clear hgd hk0 hv0 hj hil
       cases q5:decide ((999999999:Int)<v) with
       | true =>
        go_wp2_with (go_at_call 166;refine(je b s j a 2 i _ HW.o.1).mono ?_);rintro e w1 ⟨rfl,hr,hg⟩;go_wp2_with (go_at_call 166;refine(Qe b s j 2 (by decide) i 3 i _ hr).mono ?_);rintro e w2 ⟨rfl,hr2,hg2⟩;go_wp2;go_ret;exact HP.o _ j 2 i _ hr2 (ah (ah HW.o.2 hg) hg2) (Or.inr (Or.inl ⟨HO.o.1,HO.o.2,rfl,rfl⟩))
       | false =>
        go_wp2_with (go_at_call 166;refine(je b s j a 2 i _ HW.o.1).mono ?_);rintro e w1 ⟨rfl,hr,hg⟩;go_wp2;go_ret;exact HP.o _ j 2 i _ hr (ah HW.o.2 hg) (Or.inr (Or.inl ⟨HO.o.1,HO.o.2,rfl,rfl⟩))
      | false =>
       have HO:Hd (¬k=0/\¬(1<k/\s.data.toList[i]?=some 48)):=⟨hk0,fun h=>by
        have:=h.2;rw[hgd]at this;have e:=Option.some.inj this;rw[e]at q4;simp at q4⟩
       clear hgd hk0 hv0;have HJ:Hd (j=i+k):=hj;clear hj hil
       cases q5:decide ((999999999:Int)<v) with
       | true =>
        have HB:Hd (aW T > 999999999):=by
         show aW T > 999999999;have h1:=of_decide_eq_true q5;refine Int.not_le.1 (fun h2=>?_);have:=pz.o.1 h2;omega
        go_wp2_with (go_at_call 166;refine(je b s j a 3 i _ HW.o.1).mono ?_);rintro e w1 ⟨rfl,hr,hg⟩;go_wp2;go_ret;exact HP.o _ j 3 i _ hr (ah HW.o.2 hg) (Or.inr (Or.inr (Or.inl ⟨HO.o.1,HO.o.2,HB.o,rfl,rfl⟩)))
       | false =>
        have HB:Hd (¬aW T > 999999999):=by
         show ¬aW T > 999999999;have h1:=of_decide_eq_false q5;exact fun h2=>h1 (pz.o.2 h2)
        have HE:Hd (v=aW T):=pz.o.1 (Int.not_lt.1 HB.o);go_wp2;go_ret;exact HP.o _ j 0 a _ HW.o.1 HW.o.2 (Or.inr (Or.inr (Or.inr ⟨HO.o.1,HO.o.2,HB.o,rfl,HE.o,HJ.o⟩)))
     ·have q3:decide ((1:Int)<(k:Int))=false:=by simp;omega
      have HO:Hd (¬k=0/\¬(1<k/\s.data.toList[i]?=some 48)):=⟨hk0,fun h=>h1k h.1⟩;clear hgd hk0 hv0;have HJ:Hd (j=i+k):=hj;clear hj hil
      cases q5:decide ((999999999:Int)<v) with
      | true =>
       have HB:Hd (aW T > 999999999):=by
        show aW T > 999999999;have h1:=of_decide_eq_true q5;refine Int.not_le.1 (fun h2=>?_);have:=pz.o.1 h2;omega
       go_wp2_with (go_at_call 166;refine(je b s j a 3 i _ HW.o.1).mono ?_);rintro e w1 ⟨rfl,hr,hg⟩;go_wp2;go_ret;exact HP.o _ j 3 i _ hr (ah HW.o.2 hg) (Or.inr (Or.inr (Or.inl ⟨HO.o.1,HO.o.2,HB.o,rfl,rfl⟩)))
      | false =>
       have HB:Hd (¬aW T > 999999999):=by
        show ¬aW T > 999999999;have h1:=of_decide_eq_false q5;exact fun h2=>h1 (pz.o.2 h2)
       have HE:Hd (v=aW T):=pz.o.1 (Int.not_lt.1 HB.o);go_wp2;go_ret;exact HP.o _ j 0 a _ HW.o.1 HW.o.2 (Or.inr (Or.inr (Or.inr ⟨HO.o.1,HO.o.2,HB.o,rfl,HE.o,HJ.o⟩)))
   ·have hd2:decide ((j:Int)<(s.size:Int))=false:=by simp;omega
    clear HS HL hj;go_wp2;go_quiet (fail);obtain⟨W,hW⟩:=zN (wr.drewN nq);have e0:W.cell? ⟨b,0,none⟩=some (.string s):=by rw[<-hW];exact d0
    have e1:W.cell? ⟨b,1,none⟩=some (.int .i64 (j:Int)):=by rw[<-hW];exact d1
    have ef:W.frozen? ⟨b,1,none⟩=false:=by rw[<-hW];exact df
    have HW:Hd (VS b s j 0 a W/\w.grownBy W (some b)):=by
     show VS b s j 0 a W/\w.grownBy W (some b);rw[<-hW];exact⟨dm.o.drew _,aj aH.o _⟩
    rw[hW];clear hW d0 d1 df dm aH;have hj:=yU.o.1;have hil:=yU.o.2;have q2:IntKind.i64.wrap ((j:Int)-(i:Int))=(k:Int):=by rw[IntKind.wrap_i64];omega
    by_cases hk0:k=0
    ·have q1:((j:Int) == (i:Int))=true:=by simp;omega
     have q5:decide ((999999999:Int)<v)=false:=by simp;have:=hv0 hk0;omega
     have HO:Hd (k=0):=hk0;clear hk0 hv0 hj hil q2;go_wp2_with (go_at_call 166;refine(je b s j a 2 i _ HW.o.1).mono ?_);rintro e w1 ⟨rfl,hr,hg⟩;go_wp2;go_ret;exact HP.o _ j 2 i _ hr (ah HW.o.2 hg) (Or.inl ⟨HO.o,rfl,rfl⟩)
    ·have q1:((j:Int) == (i:Int))=false:=by simp;omega
     have his:i<s.size:=by omega
     have hgd:=kJ s i his
     by_cases h1k:1<k
     ·have q3:decide ((1:Int)<(k:Int))=true:=by simp;omega
      cases q4:((s[i].toNat:Int) == 48) with
      | true =>
       have HO:Hd (¬k=0/\(1<k/\s.data.toList[i]?=some 48)):=⟨hk0,h1k,by rw[hgd];congr 1;exact UInt8.toNat_inj.1 (by simp at q4;show s[i].toNat=48;omega)⟩;clear hgd hk0 hv0 hj hil
       cases q5:decide ((999999999:Int)<v) with
       | true =>
        go_wp2_with (go_at_call 166;refine(je b s j a 2 i _ HW.o.1).mono ?_);rintro e w1 ⟨rfl,hr,hg⟩;go_wp2_with (go_at_call 166;refine(Qe b s j 2 (by decide) i 3 i _ hr).mono ?_);rintro e w2 ⟨rfl,hr2,hg2⟩;go_wp2;go_ret;exact HP.o _ j 2 i _ hr2 (ah (ah HW.o.2 hg) hg2) (Or.inr (Or.inl ⟨HO.o.1,HO.o.2,rfl,rfl⟩))
       | false =>
        go_wp2_with (go_at_call 166;refine(je b s j a 2 i _ HW.o.1).mono ?_);rintro e w1 ⟨rfl,hr,hg⟩;go_wp2;go_ret;exact HP.o _ j 2 i _ hr (ah HW.o.2 hg) (Or.inr (Or.inl ⟨HO.o.1,HO.o.2,rfl,rfl⟩))
      | false =>
       have HO:Hd (¬k=0/\¬(1<k/\s.data.toList[i]?=some 48)):=⟨hk0,fun h=>by
        have:=h.2;rw[hgd]at this;have e:=Option.some.inj this;rw[e]at q4;simp at q4⟩
       clear hgd hk0 hv0;have HJ:Hd (j=i+k):=hj;clear hj hil
       cases q5:decide ((999999999:Int)<v) with
       | true =>
        have HB:Hd (aW T > 999999999):=by
         show aW T > 999999999;have h1:=of_decide_eq_true q5;refine Int.not_le.1 (fun h2=>?_);have:=pz.o.1 h2;omega
        go_wp2_with (go_at_call 166;refine(je b s j a 3 i _ HW.o.1).mono ?_);rintro e w1 ⟨rfl,hr,hg⟩;go_wp2;go_ret;exact HP.o _ j 3 i _ hr (ah HW.o.2 hg) (Or.inr (Or.inr (Or.inl ⟨HO.o.1,HO.o.2,HB.o,rfl,rfl⟩)))
       | false =>
        have HB:Hd (¬aW T > 999999999):=by
         show ¬aW T > 999999999;have h1:=of_decide_eq_false q5;exact fun h2=>h1 (pz.o.2 h2)
        have HE:Hd (v=aW T):=pz.o.1 (Int.not_lt.1 HB.o);go_wp2;go_ret;exact HP.o _ j 0 a _ HW.o.1 HW.o.2 (Or.inr (Or.inr (Or.inr ⟨HO.o.1,HO.o.2,HB.o,rfl,HE.o,HJ.o⟩)))
     ·have q3:decide ((1:Int)<(k:Int))=false:=by simp;omega
      have HO:Hd (¬k=0/\¬(1<k/\s.data.toList[i]?=some 48)):=⟨hk0,fun h=>h1k h.1⟩;clear hgd hk0 hv0;have HJ:Hd (j=i+k):=hj;clear hj hil
      cases q5:decide ((999999999:Int)<v) with
      | true =>
       have HB:Hd (aW T > 999999999):=by
        show aW T > 999999999;have h1:=of_decide_eq_true q5;refine Int.not_le.1 (fun h2=>?_);have:=pz.o.1 h2;omega
       go_wp2_with (go_at_call 166;refine(je b s j a 3 i _ HW.o.1).mono ?_);rintro e w1 ⟨rfl,hr,hg⟩;go_wp2;go_ret;exact HP.o _ j 3 i _ hr (ah HW.o.2 hg) (Or.inr (Or.inr (Or.inl ⟨HO.o.1,HO.o.2,HB.o,rfl,rfl⟩)))
      | false =>
       have HB:Hd (¬aW T > 999999999):=by
        show ¬aW T > 999999999;have h1:=of_decide_eq_false q5;exact fun h2=>h1 (pz.o.2 h2)
       have HE:Hd (v=aW T):=pz.o.1 (Int.not_lt.1 HB.o);go_wp2;go_ret;exact HP.o _ j 0 a _ HW.o.1 HW.o.2 (Or.inr (Or.inr (Or.inr ⟨HO.o.1,HO.o.2,HB.o,rfl,HE.o,HJ.o⟩)))
open Go.RowKit
def Yh:Value->Nat
 | .bool true=>1
 | _=>0
def JA(st:Bool)(b:Nat)(s:ByteArray)(i:Nat)(w:World)(e:Ending)(w':World):Prop :=
 ∃(v:ByteArray) (j:Nat) (E:Int) (c:Nat),e=.returned (.string v)/\VS b s j E c w'/\w.grownBy w' (some b)/\E=(aC st s.data.toList i).1/\(E=0->v=⟨(ag s.data.toList i (j-i)).toArray⟩/\j=(aC st s.data.toList i).2/\j<=s.size)/\(E≠0->c=(aC st s.data.toList i).2)
theorem Yi(st:Bool)(b:Nat)(s:ByteArray)(i:Nat)(a:Nat)(w:World)(hi:i<=s.size)(h:VS b s i 0 a w)(hs:s.size<2 ^ 62) :
  Calls prog 204 #[.pointer (some ⟨b,0,none⟩),.bool st] w (JA st b s i w):=by
 have h1:=h.c1;have HR:Hd (VS b s i 0 a w):=h;have HI:Hd (i<=s.size):=hi;obtain⟨R,hR⟩:=zN (aC st s.data.toList i);have HRR:Hd (aC st s.data.toList i=R):=hR;have HP:Hd (∀(v:ByteArray) (j:Nat) (E:Int) (c:Nat) (w':World),VS b s j E c w'->w.grownBy w' (some b)->v=⟨(ag s.data.toList i (j-i)).toArray⟩->j<=s.size->(E=0->R=(0,j))->(E≠0->R=(E,c))->JA st b s i w (.returned (.string v)) w'):=by
  intro v j E c w' hv hg he hj h0 h1;refine⟨v,j,E,c,rfl,hv,hg,?_⟩;rw[hR]
  by_cases hE:E=0
  ·have:=h0 hE;subst hE;rw[this];exact⟨rfl,fun _=>⟨he,rfl,hj⟩,fun h=>absurd rfl h⟩
  ·have:=h1 hE;rw[this];exact⟨rfl,fun h=>absurd h hE,fun _=>rfl⟩
 clear hR h hi;go_enter func204,ntmps204;go_wp2;go_loopw [6] (fun vm wr=>∃(mo:Bool) (j c:Nat) (E:Int),vm=.bool mo/\i<=j/\j<=s.size/\VS b s j E c wr/\w.grownBy wr (some b)/\(E=0->(mo=true->aC st s.data.toList j=R)/\(mo=false->R=(0,j)))/\(E≠0->R=(E,c))) (fun vm wr=>2*(s.size-placeOf b wr)+Yh vm)
 case atStart=>exact⟨true,i,a,0,rfl,Nat.le_refl _,HI.o,HR.o,ax _ _,fun _=>⟨fun _=>HRR.o,fun h=>absurd h (by decide)⟩,fun h=>absurd rfl h⟩
 case round =>
  obtain⟨mo,j,c,E,rfl,hij,hjs,hrs,hgb,hp0,hp1⟩:=hrel;have d0:=hrs.c0;have d1:=hrs.c1;have d2:=hrs.c2;have df:=hrs.f1;have dm:Hd (VS b s j E c wr):=hrs;have aH:Hd (w.grownBy wr (some b)):=hgb;have JB:Hd (E=0->(mo=true->aC st s.data.toList j=R)/\(mo=false->R=(0,j))):=hp0;have lF:Hd (E≠0->R=(E,c)):=hp1;have HJ:Hd (i<=j/\j<=s.size):=⟨hij,hjs⟩;clear hrs hgb h1 HR hp0 hp1 hij hjs;have sl:∀wx,(Instr.slice 9 (.string s) (some (.int .i64 (i:Int))) (some (.int .i64 (j:Int))) none).run prog wx=.ok (.string ⟨(ag s.data.toList i (j-i)).toArray⟩) wx:=fun wx=>lC s i j HJ.o.1 HJ.o.2 wx
  cases mo with
  | false =>
   go_wp2;go_quiet (fail);go_wp2;go_ret;exact HP.o _ j E c _ (dm.o.drew _) (aj aH.o _) rfl HJ.o.2 (fun h=>(JB.o h).2 (by first|rfl|trivial)) lF.o
  | true =>
   cases hz:(E == 0) with
   | false =>
    go_wp2;go_quiet (fail);go_wp2;go_ret;exact HP.o _ j E c _ (dm.o.drew _) (aj aH.o _) rfl HJ.o.2 (fun h=>absurd h (by simpa using hz)) lF.o
   | true =>
    have hE:E=0:=by simpa using hz
    subst hE;have dB:Hd (aC st s.data.toList j=R):=(JB.o rfl).1 rfl;have eG:Hd (placeOf b wr=j):=dm.o.place;obtain⟨k,hk⟩:=zN (runN bg s.data.toList j);have hsl:s.data.toList.length=s.size:=by simp
    have HN:Hd (j+k<=s.size):=by
     show j+k<=s.size;have:=rH bg s.data.toList j (by rw[hsl];exact HJ.o.2);rw[hsl]at this;omega
    have HA:Hd (∀q,j<=q->(hq:q<s.size)->q<j+k->bg s[q]=true):=by
     show ∀q,j<=q->(hq:q<s.size)->q<j+k->bg s[q]=true;intro q h1 hq h2;obtain⟨g1,g2⟩:=IZ bg s.data.toList j (q-j) (by omega);have e:j+(q-j)=q:=by omega
     simp only[e]at g2;exact g2
    have HS:Hd (∀q,q=j+k->(hq:q<s.size)->bg s[q]=false):=by
     show ∀q,q=j+k->(hq:q<s.size)->bg s[q]=false;intro q e hq;have:=EG bg s.data.toList j (by rw[hk];simpa [<-e] using hq);simp only[hk,<-e]at this;exact this
    obtain⟨T,hT⟩:=zN (ag s.data.toList j k);have EU:Hd (T.length=k):=by show T.length=k;rw[<-hT];exact tN s.data.toList j k (by rw[hsl];exact HN.o)
    obtain⟨X,hX⟩:∃X:ByteArray,X=⟨T.toArray⟩:=⟨_,rfl⟩;have xJ:Hd (X.data.toList=T):=by show X.data.toList=T;rw[hX]
    have ji:Hd (∀q,q=j+k->∀wx,(Instr.slice 9 (.string s) (some (.int .i64 (j:Int))) (some (.int .i64 (q:Int))) none).run prog wx=.ok (.string X) wx):=by
     show ∀q,q=j+k->∀wx,(Instr.slice 9 (.string s) (some (.int .i64 (j:Int))) (some (.int .i64 (q:Int))) none).run prog wx=.ok (.string X) wx;intro q e wx;subst e;have:=lC s j (j+k) (by omega) HN.o wx;rw[show j+k-j=k by omega,hT,<-hX]at this;exact this
    have HST:Hd ((if k=0 then(2,j) else if jd st T=true then(2,j) else if s.data.toList[j+k]?=some 46 then aC st s.data.toList (j+k+1) else(0,j+k))=R):=by
     have:=dB.o;rw[EI,hk,hT]at this;exact this
    clear hz sl hk hT hX dB JB lF hsl;go_wp2;go_loopw [] (fun wq=>∃q:Nat,j<=q/\q<=j+k/\VS b s q 0 c wq/\w.grownBy wq (some b)) (fun wq=>s.size-placeOf b wq)
    case atStart=>exact⟨j,Nat.le_refl _,Nat.le_add_right _ _,dm.o,aH.o⟩
    clear dm aH d0 d1 d2 df;rename_i wr0 _ _ _;obtain⟨q,hjq,EW,hrs,hgb⟩:=hrel;have d0:=hrs.c0;have d1:=hrs.c1;have df:=hrs.f1;have dm:Hd (VS b s q 0 c wr):=hrs;have aH:Hd (w.grownBy wr (some b)):=hgb;have hns:=HN.o;clear hrs hgb
    by_cases hlt:q<j+k
    ·have xK:q<s.size:=by omega
     have hD:bg s[q]=true:=HA.o q hjq xK hlt;have HK:Hd (j<=q/\q<j+k/\q<s.size):=⟨hjq,hlt,xK⟩;have hlt2:(q:Int)<(s.size:Int):=by omega
     have hw:IntKind.i64.wrap ((q:Int)+1)=((q+1:Nat):Int):=by rw[IntKind.wrap_i64];omega
     clear hlt EW hns hjq;go_wp2;go_quiet (first|(go_at_call 220;exact Calls.quiet_of_same (PT _ _)));go_wp2;go_roundw
     case rel =>
      have:=HK.o;exact⟨q+1,by omega,by omega,(dm.o.drew _).set1 (q+1),aQ (aj aH.o _) _ _⟩
     case measure =>
      have e1:=dm.o.place;have e2:=((dm.o.drew nq).set1 (q+1)).place;rw[e1];exact Nat.lt_of_le_of_lt (Nat.le_of_eq (congrArg (s.size - ·) e2)) (by have:=HK.o;omega)
    ·have HQ:Hd (q=j+k):=by show q=j+k;omega
     have sl2:=ji.o q HQ.o;clear hlt EW hns hjq
     by_cases xK:q<s.size
     ·have hD:bg s[q]=false:=HS.o q HQ.o xK;have hlt2:(q:Int)<(s.size:Int):=by omega
      go_wp2;go_quiet (first|(go_at_call 220;exact Calls.quiet_of_same (PT _ _)));obtain⟨W,hW⟩:=zN (wr.drewN nq);have e0:W.cell? ⟨b,0,none⟩=some (.string s):=by rw[<-hW];exact d0
      have e1:W.cell? ⟨b,1,none⟩=some (.int .i64 (q:Int)):=by rw[<-hW];exact d1
      have ef:W.frozen? ⟨b,1,none⟩=false:=by rw[<-hW];exact df
      have HW:Hd (VS b s q 0 c W/\w.grownBy W (some b)):=by
       show VS b s q 0 c W/\w.grownBy W (some b);rw[<-hW];exact⟨dm.o.drew _,aj aH.o _⟩
      rw[hW];clear hW d0 d1 df dm aH;go_wp2;go_quiet (fail);obtain⟨U,hU⟩:=zN (W.drewN nq);have g0:U.cell? ⟨b,0,none⟩=some (.string s):=by rw[<-hU];exact e0
      have g1:U.cell? ⟨b,1,none⟩=some (.int .i64 (q:Int)):=by rw[<-hU];exact e1
      have gf:U.frozen? ⟨b,1,none⟩=false:=by rw[<-hU];exact ef
      have HU:Hd (VS b s q 0 c U/\w.grownBy U (some b)):=by
       show VS b s q 0 c U/\w.grownBy U (some b);rw[<-hU];exact⟨HW.o.1.drew _,aj HW.o.2 _⟩
      rw[hU];clear hU e0 e1 ef HW sl2;have gu:X.size=k:=by
       have h1:=EU.o;rw[<-xJ.o]at h1;simpa using h1
      obtain⟨ad,had⟩:=zN (X.data.toList.all aI);have CD:Hd (∀w,Calls prog 221 #[.string X] w fun e w'=>e=.returned (.bool ad)/\w'=w):=fun w=>by rw[<-had];exact PU X w (by have:=HN.o;omega)
      have dW:Hd (jd st T=(st && (ad && (decide (1<k) && decide (T[0]?=some 48))))):=by
       show _=_;rw[<-had,xJ.o];unfold jd;rw[EU.o]
      clear had;have aU:Hd (i<=j/\j<=q/\q<=s.size):=by
       have a1:=HJ.o;have a2:=HQ.o;have a3:=HN.o;exact⟨a1.1,by omega,by omega⟩
      have hw:IntKind.i64.wrap ((q:Int)+1)=((q+1:Nat):Int):=by rw[IntKind.wrap_i64];have:=aU.o;omega
      cases q46:((s[q].toNat:Int) == 46) with
      | true =>
       have AO:Hd (s.data.toList[q]?=some 46):=by
        show s.data.toList[q]?=some 46;rw[kJ s q xK];congr 1;exact UInt8.toNat_inj.1 (by simp at q46;show s[q].toNat=46;omega)
       replace aU:Hd ((i<=j/\j<=q/\q<=s.size)/\q<s.size):=⟨aU.o,xK⟩
       by_cases hk0:k=0
       ·have m1:=yP (gu.trans hk0);have m2:decide ((1:Int)<(X.size:Int))=false:=by simp;omega
        have ed:Hd (R=(2,q)):=by
         show R=(2,q);rw[HQ.o,<-HST.o,if_pos hk0,hk0];rfl
        clear hk0 gu dW HST
        cases st with
        | false =>
         go_wp2_with (first|(go_at_call 221;refine(CD.o _).mono ?_;rintro e w' ⟨rfl,rfl⟩)|(go_at_call 166;refine(je b s q c 2 q _ HU.o.1).mono ?_));rintro e w1 ⟨rfl,hr,hg⟩;have y0:=hr.c0;have y1:=hr.c1;have yf:=hr.f1;have HY:Hd (VS b s q 2 q w1/\w.grownBy w1 (some b)):=⟨hr,ah HU.o.2 hg⟩;clear hr hg g0 g1 gf HU;go_wp2
         all_goals
          go_quiet (fail);go_wp2;go_roundw
          case rel=>exact⟨true,q+1,q,2,rfl,by have:=aU.o;omega,by have:=aU.o;omega,(HY.o.1.drew _).set1 (q+1),aQ (aj HY.o.2 _) _ _,fun h=>absurd h (by decide),fun _=>ed.o⟩
          case measure =>
           have e2:=((HY.o.1.drew nq).set1 (q+1)).place;rw[eG.o];refine Nat.lt_of_le_of_lt (Nat.le_of_eq (congrArg (fun x=>2*(s.size-x)+1) e2)) ?_;have:=aU.o;show 2*(s.size-(q+1))+1<2*(s.size-j)+1;omega
        | true =>
         cases ad with
         | false =>
          go_wp2_with (first|(go_at_call 221;refine(CD.o _).mono ?_;rintro e w' ⟨rfl,rfl⟩)|(go_at_call 166;refine(je b s q c 2 q _ HU.o.1).mono ?_));rintro e w1 ⟨rfl,hr,hg⟩;have y0:=hr.c0;have y1:=hr.c1;have yf:=hr.f1;have HY:Hd (VS b s q 2 q w1/\w.grownBy w1 (some b)):=⟨hr,ah HU.o.2 hg⟩;clear hr hg g0 g1 gf HU;go_wp2
          all_goals
           go_quiet (fail);go_wp2;go_roundw
           case rel=>exact⟨true,q+1,q,2,rfl,by have:=aU.o;omega,by have:=aU.o;omega,(HY.o.1.drew _).set1 (q+1),aQ (aj HY.o.2 _) _ _,fun h=>absurd h (by decide),fun _=>ed.o⟩
           case measure =>
            have e2:=((HY.o.1.drew nq).set1 (q+1)).place;rw[eG.o];refine Nat.lt_of_le_of_lt (Nat.le_of_eq (congrArg (fun x=>2*(s.size-x)+1) e2)) ?_;have:=aU.o;show 2*(s.size-(q+1))+1<2*(s.size-j)+1;omega
         | true =>
          go_wp2_with (first|(go_at_call 221;refine(CD.o _).mono ?_;rintro e w' ⟨rfl,rfl⟩)|(go_at_call 166;refine(je b s q c 2 q _ HU.o.1).mono ?_));rintro e w1 ⟨rfl,hr,hg⟩;have y0:=hr.c0;have y1:=hr.c1;have yf:=hr.f1;have HY:Hd (VS b s q 2 q w1/\w.grownBy w1 (some b)):=⟨hr,ah HU.o.2 hg⟩;clear hr hg g0 g1 gf HU;go_wp2
          all_goals
           go_quiet (fail);go_wp2;go_roundw
           case rel=>exact⟨true,q+1,q,2,rfl,by have:=aU.o;omega,by have:=aU.o;omega,(HY.o.1.drew _).set1 (q+1),aQ (aj HY.o.2 _) _ _,fun h=>absurd h (by decide),fun _=>ed.o⟩
           case measure =>
            have e2:=((HY.o.1.drew nq).set1 (q+1)).place;rw[eG.o];refine Nat.lt_of_le_of_lt (Nat.le_of_eq (congrArg (fun x=>2*(s.size-x)+1) e2)) ?_;have:=aU.o;show 2*(s.size-(q+1))+1<2*(s.size-j)+1;omega
       ·have m1:=yQ (fun h=>hk0 (gu.symm.trans h));have AP:0<X.size:=by omega
        have HT0:Hd (T[0]?=some X[0]):=by show T[0]?=some X[0];rw[<-xJ.o,kJ X 0 AP]
        have HZ:Hd ((if jd st T=true then(2,j) else if s.data.toList[j+k]?=some 46 then aC st s.data.toList (j+k+1) else(0,j+k))=R):=by
         have:=HST.o;rw[if_neg hk0]at this;exact this
        have HG:Hd (jd st T=false->aC st s.data.toList (q+1)=R):=by
         intro h;have:=HZ.o;rw[if_neg (by rw[h];decide)]at this;rw[<-HQ.o,if_pos AO.o]at this;exact this
        have rO:Hd (X.size=k):=gu;clear hk0 gu HST
        cases st with
        | false =>
         have ed:Hd (aC false s.data.toList (q+1)=R):=HG.o (by rw[dW.o];rfl);have HY:Hd (VS b s q 0 c U/\w.grownBy U (some b)):=HU.o;clear dW HG HZ HU;go_wp2_with (go_at_call 221;refine(CD.o _).mono ?_;rintro e w' ⟨rfl,rfl⟩)
         all_goals
          go_quiet (fail);go_wp2;go_roundw
          case rel=>exact⟨true,q+1,c,0,rfl,by have:=aU.o;omega,by have:=aU.o;omega,(HY.o.1.drew _).set1 (q+1),aQ (aj HY.o.2 _) _ _,fun _=>⟨fun _=>ed.o,fun h=>absurd h (by decide)⟩,fun h=>absurd rfl h⟩
          case measure =>
           have e2:=((HY.o.1.drew nq).set1 (q+1)).place;rw[eG.o];refine Nat.lt_of_le_of_lt (Nat.le_of_eq (congrArg (fun x=>2*(s.size-x)+1) e2)) ?_;have:=aU.o;show 2*(s.size-(q+1))+1<2*(s.size-j)+1;omega
        | true =>
         cases ad with
         | false =>
          have ed:Hd (aC true s.data.toList (q+1)=R):=HG.o (by rw[dW.o];rfl);have HY:Hd (VS b s q 0 c U/\w.grownBy U (some b)):=HU.o;clear dW HG HZ HU;go_wp2_with (go_at_call 221;refine(CD.o _).mono ?_;rintro e w' ⟨rfl,rfl⟩)
          all_goals
           go_quiet (fail);go_wp2;go_roundw
           case rel=>exact⟨true,q+1,c,0,rfl,by have:=aU.o;omega,by have:=aU.o;omega,(HY.o.1.drew _).set1 (q+1),aQ (aj HY.o.2 _) _ _,fun _=>⟨fun _=>ed.o,fun h=>absurd h (by decide)⟩,fun h=>absurd rfl h⟩
           case measure =>
            have e2:=((HY.o.1.drew nq).set1 (q+1)).place;rw[eG.o];refine Nat.lt_of_le_of_lt (Nat.le_of_eq (congrArg (fun x=>2*(s.size-x)+1) e2)) ?_;have:=aU.o;show 2*(s.size-(q+1))+1<2*(s.size-j)+1;omega
         | true =>
          cases m2:decide ((1:Int)<(X.size:Int)) with
          | false =>
           have ed:Hd (aC true s.data.toList (q+1)=R):=HG.o (by
            rw[dW.o];have h1:=of_decide_eq_false m2;have h2:=rO.o;rw[show decide (1<k)=false from by simp;omega];rfl)
           have HY:Hd (VS b s q 0 c U/\w.grownBy U (some b)):=HU.o;clear dW HG HZ HU;go_wp2_with (go_at_call 221;refine(CD.o _).mono ?_;rintro e w' ⟨rfl,rfl⟩)
           all_goals
            go_quiet (fail);go_wp2;go_roundw
            case rel=>exact⟨true,q+1,c,0,rfl,by have:=aU.o;omega,by have:=aU.o;omega,(HY.o.1.drew _).set1 (q+1),aQ (aj HY.o.2 _) _ _,fun _=>⟨fun _=>ed.o,fun h=>absurd h (by decide)⟩,fun h=>absurd rfl h⟩
            case measure =>
             have e2:=((HY.o.1.drew nq).set1 (q+1)).place;rw[eG.o];refine Nat.lt_of_le_of_lt (Nat.le_of_eq (congrArg (fun x=>2*(s.size-x)+1) e2)) ?_;have:=aU.o;show 2*(s.size-(q+1))+1<2*(s.size-j)+1;omega
          | true =>
           cases m3:((X[0].toNat:Int) == 48) with
           | false =>
            have ed:Hd (aC true s.data.toList (q+1)=R):=HG.o (by
             rw[dW.o,HT0.o];rw[show decide (some X[0]=some (48:UInt8))=false from by
              simp only[decide_eq_false_iff_not];intro e;have:=Option.some.inj e;rw[this]at m3;exact absurd m3 (by decide)]
             simp)
            have HY:Hd (VS b s q 0 c U/\w.grownBy U (some b)):=HU.o;clear dW HG HZ HU;go_wp2_with (go_at_call 221;refine(CD.o _).mono ?_;rintro e w' ⟨rfl,rfl⟩)
            all_goals
             go_quiet (fail);go_wp2;go_roundw
             case rel=>exact⟨true,q+1,c,0,rfl,by have:=aU.o;omega,by have:=aU.o;omega,(HY.o.1.drew _).set1 (q+1),aQ (aj HY.o.2 _) _ _,fun _=>⟨fun _=>ed.o,fun h=>absurd h (by decide)⟩,fun h=>absurd rfl h⟩
             case measure =>
              have e2:=((HY.o.1.drew nq).set1 (q+1)).place;rw[eG.o];refine Nat.lt_of_le_of_lt (Nat.le_of_eq (congrArg (fun x=>2*(s.size-x)+1) e2)) ?_;have:=aU.o;show 2*(s.size-(q+1))+1<2*(s.size-j)+1;omega
           | true =>
            have ed:Hd (R=(2,j)):=by
             show R=(2,j);rw[<-HZ.o,if_pos];have h1:=of_decide_eq_true m2;have h2:=rO.o;rw[dW.o,HT0.o,show decide (1<k)=true from by simp;omega,show X[0]=48 from UInt8.toNat_inj.1 (by simp at m3;show X[0].toNat=48;omega)];decide
            clear dW HG HZ;go_wp2_with (first|(go_at_call 221;refine(CD.o _).mono ?_;rintro e w' ⟨rfl,rfl⟩)|(go_at_call 166;refine(je b s q c 2 j _ HU.o.1).mono ?_))
            all_goals rintro e w1 ⟨rfl,hr,hg⟩
            all_goals
             have y0:=hr.c0;have y1:=hr.c1;have yf:=hr.f1;have HY:Hd (VS b s q 2 j w1/\w.grownBy w1 (some b)):=⟨hr,ah HU.o.2 hg⟩;clear hr hg g0 g1 gf HU;go_wp2
             all_goals
              go_quiet (fail);go_wp2;go_roundw
              case rel=>exact⟨true,q+1,j,2,rfl,by have:=aU.o;omega,by have:=aU.o;omega,(HY.o.1.drew _).set1 (q+1),aQ (aj HY.o.2 _) _ _,fun h=>absurd h (by decide),fun _=>ed.o⟩
              case measure =>
               have e2:=((HY.o.1.drew nq).set1 (q+1)).place;rw[eG.o];refine Nat.lt_of_le_of_lt (Nat.le_of_eq (congrArg (fun x=>2*(s.size-x)+1) e2)) ?_;have:=aU.o;show 2*(s.size-(q+1))+1<2*(s.size-j)+1;omega
      | false =>
       have AO:Hd (¬s.data.toList[q]?=some 46):=by
        show ¬s.data.toList[q]?=some 46;rw[kJ s q xK];intro e;have:=Option.some.inj e;rw[this]at q46;exact absurd q46 (by decide)
       by_cases hk0:k=0
       ·have m1:=yP (gu.trans hk0);have m2:decide ((1:Int)<(X.size:Int))=false:=by simp;omega
        have ed:Hd (R=(2,q)):=by
         show R=(2,q);rw[HQ.o,<-HST.o,if_pos hk0,hk0];rfl
        clear hk0 gu dW HST
        cases st with
        | false =>
         go_wp2_with (first|(go_at_call 221;refine(CD.o _).mono ?_;rintro e w' ⟨rfl,rfl⟩)|(go_at_call 166;refine(je b s q c 2 q _ HU.o.1).mono ?_));rintro e w1 ⟨rfl,hr,hg⟩;have y0:=hr.c0;have y1:=hr.c1;have yf:=hr.f1;have HY:Hd (VS b s q 2 q w1/\w.grownBy w1 (some b)):=⟨hr,ah HU.o.2 hg⟩;clear hr hg g0 g1 gf HU;go_wp2
         all_goals
          go_quiet (fail);go_wp2;go_roundw
          case rel=>exact⟨false,q,q,2,rfl,by have:=aU.o;omega,by have:=aU.o;omega,HY.o.1.drew _,aj HY.o.2 _,fun h=>absurd h (by decide),fun _=>ed.o⟩
          case measure =>
           have e2:=(HY.o.1.drew nq).place;rw[eG.o];refine Nat.lt_of_le_of_lt (Nat.le_of_eq (congrArg (fun x=>2*(s.size-x)+0) e2)) ?_;have:=aU.o;show 2*(s.size-q)+0<2*(s.size-j)+1;omega
        | true =>
         cases ad with
         | false =>
          go_wp2_with (first|(go_at_call 221;refine(CD.o _).mono ?_;rintro e w' ⟨rfl,rfl⟩)|(go_at_call 166;refine(je b s q c 2 q _ HU.o.1).mono ?_));rintro e w1 ⟨rfl,hr,hg⟩;have y0:=hr.c0;have y1:=hr.c1;have yf:=hr.f1;have HY:Hd (VS b s q 2 q w1/\w.grownBy w1 (some b)):=⟨hr,ah HU.o.2 hg⟩;clear hr hg g0 g1 gf HU;go_wp2
          all_goals
           go_quiet (fail);go_wp2;go_roundw
           case rel=>exact⟨false,q,q,2,rfl,by have:=aU.o;omega,by have:=aU.o;omega,HY.o.1.drew _,aj HY.o.2 _,fun h=>absurd h (by decide),fun _=>ed.o⟩
           case measure =>
            have e2:=(HY.o.1.drew nq).place;rw[eG.o];refine Nat.lt_of_le_of_lt (Nat.le_of_eq (congrArg (fun x=>2*(s.size-x)+0) e2)) ?_;have:=aU.o;show 2*(s.size-q)+0<2*(s.size-j)+1;omega
         | true =>
          go_wp2_with (first|(go_at_call 221;refine(CD.o _).mono ?_;rintro e w' ⟨rfl,rfl⟩)|(go_at_call 166;refine(je b s q c 2 q _ HU.o.1).mono ?_));rintro e w1 ⟨rfl,hr,hg⟩;have y0:=hr.c0;have y1:=hr.c1;have yf:=hr.f1;have HY:Hd (VS b s q 2 q w1/\w.grownBy w1 (some b)):=⟨hr,ah HU.o.2 hg⟩;clear hr hg g0 g1 gf HU;go_wp2
          all_goals
           go_quiet (fail);go_wp2;go_roundw
           case rel=>exact⟨false,q,q,2,rfl,by have:=aU.o;omega,by have:=aU.o;omega,HY.o.1.drew _,aj HY.o.2 _,fun h=>absurd h (by decide),fun _=>ed.o⟩
           case measure =>
            have e2:=(HY.o.1.drew nq).place;rw[eG.o];refine Nat.lt_of_le_of_lt (Nat.le_of_eq (congrArg (fun x=>2*(s.size-x)+0) e2)) ?_;have:=aU.o;show 2*(s.size-q)+0<2*(s.size-j)+1;omega
       ·have m1:=yQ (fun h=>hk0 (gu.symm.trans h));have AP:0<X.size:=by omega
        have HT0:Hd (T[0]?=some X[0]):=by show T[0]?=some X[0];rw[<-xJ.o,kJ X 0 AP]
        have HZ:Hd ((if jd st T=true then(2,j) else if s.data.toList[j+k]?=some 46 then aC st s.data.toList (j+k+1) else(0,j+k))=R):=by
         have:=HST.o;rw[if_neg hk0]at this;exact this
        have HG:Hd (jd st T=false->R=(0,q)):=by
         intro h;have:=HZ.o;rw[if_neg (by rw[h];decide)]at this;rw[<-HQ.o,if_neg AO.o]at this;exact this.symm
        have rO:Hd (X.size=k):=gu;clear hk0 gu HST
        cases st with
        | false =>
         have ed:Hd (R=(0,q)):=HG.o (by rw[dW.o];rfl);have HY:Hd (VS b s q 0 c U/\w.grownBy U (some b)):=HU.o;clear dW HG HZ HU;go_wp2_with (go_at_call 221;refine(CD.o _).mono ?_;rintro e w' ⟨rfl,rfl⟩)
         all_goals
          go_quiet (fail);go_wp2;go_roundw
          case rel=>exact⟨false,q,c,0,rfl,by have:=aU.o;omega,by have:=aU.o;omega,HY.o.1.drew _,aj HY.o.2 _,fun _=>⟨fun h=>absurd h (by decide),fun _=>ed.o⟩,fun h=>absurd rfl h⟩
          case measure =>
           have e2:=(HY.o.1.drew nq).place;rw[eG.o];refine Nat.lt_of_le_of_lt (Nat.le_of_eq (congrArg (fun x=>2*(s.size-x)+0) e2)) ?_;have:=aU.o;show 2*(s.size-q)+0<2*(s.size-j)+1;omega
        | true =>
         cases ad with
         | false =>
          have ed:Hd (R=(0,q)):=HG.o (by rw[dW.o];rfl);have HY:Hd (VS b s q 0 c U/\w.grownBy U (some b)):=HU.o;clear dW HG HZ HU;go_wp2_with (go_at_call 221;refine(CD.o _).mono ?_;rintro e w' ⟨rfl,rfl⟩)
          all_goals
           go_quiet (fail);go_wp2;go_roundw
           case rel=>exact⟨false,q,c,0,rfl,by have:=aU.o;omega,by have:=aU.o;omega,HY.o.1.drew _,aj HY.o.2 _,fun _=>⟨fun h=>absurd h (by decide),fun _=>ed.o⟩,fun h=>absurd rfl h⟩
           case measure =>
            have e2:=(HY.o.1.drew nq).place;rw[eG.o];refine Nat.lt_of_le_of_lt (Nat.le_of_eq (congrArg (fun x=>2*(s.size-x)+0) e2)) ?_;have:=aU.o;show 2*(s.size-q)+0<2*(s.size-j)+1;omega
         | true =>
          cases m2:decide ((1:Int)<(X.size:Int)) with
          | false =>
           have ed:Hd (R=(0,q)):=HG.o (by
            rw[dW.o];have h1:=of_decide_eq_false m2;have h2:=rO.o;rw[show decide (1<k)=false from by simp;omega];rfl)
           have HY:Hd (VS b s q 0 c U/\w.grownBy U (some b)):=HU.o;clear dW HG HZ HU;go_wp2_with (go_at_call 221;refine(CD.o _).mono ?_;rintro e w' ⟨rfl,rfl⟩)
           all_goals
            go_quiet (fail);go_wp2;go_roundw
            case rel=>exact⟨false,q,c,0,rfl,by have:=aU.o;omega,by have:=aU.o;omega,HY.o.1.drew _,aj HY.o.2 _,fun _=>⟨fun h=>absurd h (by decide),fun _=>ed.o⟩,fun h=>absurd rfl h⟩
            case measure =>
             have e2:=(HY.o.1.drew nq).place;rw[eG.o];refine Nat.lt_of_le_of_lt (Nat.le_of_eq (congrArg (fun x=>2*(s.size-x)+0) e2)) ?_;have:=aU.o;show 2*(s.size-q)+0<2*(s.size-j)+1;omega
          | true =>
           cases m3:((X[0].toNat:Int) == 48) with
           | false =>
            have ed:Hd (R=(0,q)):=HG.o (by
             rw[dW.o,HT0.o];rw[show decide (some X[0]=some (48:UInt8))=false from by
              simp only[decide_eq_false_iff_not];intro e;have:=Option.some.inj e;rw[this]at m3;exact absurd m3 (by decide)]
             simp)
            have HY:Hd (VS b s q 0 c U/\w.grownBy U (some b)):=HU.o;clear dW HG HZ HU;go_wp2_with (go_at_call 221;refine(CD.o _).mono ?_;rintro e w' ⟨rfl,rfl⟩)
            all_goals
             go_quiet (fail);go_wp2;go_roundw
             case rel=>exact⟨false,q,c,0,rfl,by have:=aU.o;omega,by have:=aU.o;omega,HY.o.1.drew _,aj HY.o.2 _,fun _=>⟨fun h=>absurd h (by decide),fun _=>ed.o⟩,fun h=>absurd rfl h⟩
             case measure =>
              have e2:=(HY.o.1.drew nq).place;rw[eG.o];refine Nat.lt_of_le_of_lt (Nat.le_of_eq (congrArg (fun x=>2*(s.size-x)+0) e2)) ?_;have:=aU.o;show 2*(s.size-q)+0<2*(s.size-j)+1;omega
           | true =>
            have ed:Hd (R=(2,j)):=by
             show R=(2,j);rw[<-HZ.o,if_pos];have h1:=of_decide_eq_true m2;have h2:=rO.o;rw[dW.o,HT0.o,show decide (1<k)=true from by simp;omega,show X[0]=48 from UInt8.toNat_inj.1 (by simp at m3;show X[0].toNat=48;omega)];decide
            clear dW HG HZ;go_wp2_with (first|(go_at_call 221;refine(CD.o _).mono ?_;rintro e w' ⟨rfl,rfl⟩)|(go_at_call 166;refine(je b s q c 2 j _ HU.o.1).mono ?_))
            all_goals rintro e w1 ⟨rfl,hr,hg⟩
            all_goals
             have y0:=hr.c0;have y1:=hr.c1;have yf:=hr.f1;have HY:Hd (VS b s q 2 j w1/\w.grownBy w1 (some b)):=⟨hr,ah HU.o.2 hg⟩;clear hr hg g0 g1 gf HU;go_wp2
             all_goals
              go_quiet (fail);go_wp2;go_roundw
              case rel=>exact⟨false,q,j,2,rfl,by have:=aU.o;omega,by have:=aU.o;omega,HY.o.1.drew _,aj HY.o.2 _,fun h=>absurd h (by decide),fun _=>ed.o⟩
              case measure =>
               have e2:=(HY.o.1.drew nq).place;rw[eG.o];refine Nat.lt_of_le_of_lt (Nat.le_of_eq (congrArg (fun x=>2*(s.size-x)+0) e2)) ?_;have:=aU.o;show 2*(s.size-q)+0<2*(s.size-j)+1;omega
     ·have hd2:decide ((q:Int)<(s.size:Int))=false:=by simp;omega
      go_wp2;go_quiet (fail);obtain⟨W,hW⟩:=zN (wr.drewN nq);have e0:W.cell? ⟨b,0,none⟩=some (.string s):=by rw[<-hW];exact d0
      have e1:W.cell? ⟨b,1,none⟩=some (.int .i64 (q:Int)):=by rw[<-hW];exact d1
      have ef:W.frozen? ⟨b,1,none⟩=false:=by rw[<-hW];exact df
      have HW:Hd (VS b s q 0 c W/\w.grownBy W (some b)):=by
       show VS b s q 0 c W/\w.grownBy W (some b);rw[<-hW];exact⟨dm.o.drew _,aj aH.o _⟩
      rw[hW];clear hW d0 d1 df dm aH;go_wp2;go_quiet (fail);obtain⟨U,hU⟩:=zN (W.drewN nq);have g0:U.cell? ⟨b,0,none⟩=some (.string s):=by rw[<-hU];exact e0
      have g1:U.cell? ⟨b,1,none⟩=some (.int .i64 (q:Int)):=by rw[<-hU];exact e1
      have gf:U.frozen? ⟨b,1,none⟩=false:=by rw[<-hU];exact ef
      have HU:Hd (VS b s q 0 c U/\w.grownBy U (some b)):=by
       show VS b s q 0 c U/\w.grownBy U (some b);rw[<-hU];exact⟨HW.o.1.drew _,aj HW.o.2 _⟩
      rw[hU];clear hU e0 e1 ef HW sl2;have gu:X.size=k:=by
       have h1:=EU.o;rw[<-xJ.o]at h1;simpa using h1
      obtain⟨ad,had⟩:=zN (X.data.toList.all aI);have CD:Hd (∀w,Calls prog 221 #[.string X] w fun e w'=>e=.returned (.bool ad)/\w'=w):=fun w=>by rw[<-had];exact PU X w (by have:=HN.o;omega)
      have dW:Hd (jd st T=(st && (ad && (decide (1<k) && decide (T[0]?=some 48))))):=by
       show _=_;rw[<-had,xJ.o];unfold jd;rw[EU.o]
      clear had;have aU:Hd (i<=j/\j<=q/\q<=s.size):=by
       have a1:=HJ.o;have a2:=HQ.o;have a3:=HN.o;exact⟨a1.1,by omega,by omega⟩
      have hw:IntKind.i64.wrap ((q:Int)+1)=((q+1:Nat):Int):=by rw[IntKind.wrap_i64];have:=aU.o;omega
      have AO:Hd (¬s.data.toList[q]?=some 46):=by
       show ¬s.data.toList[q]?=some 46;rw[List.getElem?_eq_none (by simp;omega)];simp
      by_cases hk0:k=0
      ·have m1:=yP (gu.trans hk0);have m2:decide ((1:Int)<(X.size:Int))=false:=by simp;omega
       have ed:Hd (R=(2,q)):=by
        show R=(2,q);rw[HQ.o,<-HST.o,if_pos hk0,hk0];rfl
       clear hk0 gu dW HST
       cases st with
       | false =>
        go_wp2_with (first|(go_at_call 221;refine(CD.o _).mono ?_;rintro e w' ⟨rfl,rfl⟩)|(go_at_call 166;refine(je b s q c 2 q _ HU.o.1).mono ?_));rintro e w1 ⟨rfl,hr,hg⟩;have y0:=hr.c0;have y1:=hr.c1;have yf:=hr.f1;have HY:Hd (VS b s q 2 q w1/\w.grownBy w1 (some b)):=⟨hr,ah HU.o.2 hg⟩;clear hr hg g0 g1 gf HU;go_wp2
        all_goals
         go_quiet (fail);go_wp2;go_roundw
         case rel=>exact⟨false,q,q,2,rfl,by have:=aU.o;omega,by have:=aU.o;omega,HY.o.1.drew _,aj HY.o.2 _,fun h=>absurd h (by decide),fun _=>ed.o⟩
         case measure =>
          have e2:=(HY.o.1.drew nq).place;rw[eG.o];refine Nat.lt_of_le_of_lt (Nat.le_of_eq (congrArg (fun x=>2*(s.size-x)+0) e2)) ?_;have:=aU.o;show 2*(s.size-q)+0<2*(s.size-j)+1;omega
       | true =>
        cases ad with
        | false =>
         go_wp2_with (first|(go_at_call 221;refine(CD.o _).mono ?_;rintro e w' ⟨rfl,rfl⟩)|(go_at_call 166;refine(je b s q c 2 q _ HU.o.1).mono ?_));rintro e w1 ⟨rfl,hr,hg⟩;have y0:=hr.c0;have y1:=hr.c1;have yf:=hr.f1;have HY:Hd (VS b s q 2 q w1/\w.grownBy w1 (some b)):=⟨hr,ah HU.o.2 hg⟩;clear hr hg g0 g1 gf HU;go_wp2
         all_goals
          go_quiet (fail);go_wp2;go_roundw
          case rel=>exact⟨false,q,q,2,rfl,by have:=aU.o;omega,by have:=aU.o;omega,HY.o.1.drew _,aj HY.o.2 _,fun h=>absurd h (by decide),fun _=>ed.o⟩
          case measure =>
           have e2:=(HY.o.1.drew nq).place;rw[eG.o];refine Nat.lt_of_le_of_lt (Nat.le_of_eq (congrArg (fun x=>2*(s.size-x)+0) e2)) ?_;have:=aU.o;show 2*(s.size-q)+0<2*(s.size-j)+1;omega
        | true =>
         go_wp2_with (first|(go_at_call 221;refine(CD.o _).mono ?_;rintro e w' ⟨rfl,rfl⟩)|(go_at_call 166;refine(je b s q c 2 q _ HU.o.1).mono ?_));rintro e w1 ⟨rfl,hr,hg⟩;have y0:=hr.c0;have y1:=hr.c1;have yf:=hr.f1;have HY:Hd (VS b s q 2 q w1/\w.grownBy w1 (some b)):=⟨hr,ah HU.o.2 hg⟩;clear hr hg g0 g1 gf HU;go_wp2
         all_goals
          go_quiet (fail);go_wp2;go_roundw
          case rel=>exact⟨false,q,q,2,rfl,by have:=aU.o;omega,by have:=aU.o;omega,HY.o.1.drew _,aj HY.o.2 _,fun h=>absurd h (by decide),fun _=>ed.o⟩
          case measure =>
           have e2:=(HY.o.1.drew nq).place;rw[eG.o];refine Nat.lt_of_le_of_lt (Nat.le_of_eq (congrArg (fun x=>2*(s.size-x)+0) e2)) ?_;have:=aU.o;show 2*(s.size-q)+0<2*(s.size-j)+1;omega
      ·have m1:=yQ (fun h=>hk0 (gu.symm.trans h));have AP:0<X.size:=by omega
       have HT0:Hd (T[0]?=some X[0]):=by show T[0]?=some X[0];rw[<-xJ.o,kJ X 0 AP]
       have HZ:Hd ((if jd st T=true then(2,j) else if s.data.toList[j+k]?=some 46 then aC st s.data.toList (j+k+1) else(0,j+k))=R):=by
        have:=HST.o;rw[if_neg hk0]at this;exact this
       have HG:Hd (jd st T=false->R=(0,q)):=by
        intro h;have:=HZ.o;rw[if_neg (by rw[h];decide)]at this;rw[<-HQ.o,if_neg AO.o]at this;exact this.symm
       have rO:Hd (X.size=k):=gu;clear hk0 gu HST
       cases st with
       | false =>
        have ed:Hd (R=(0,q)):=HG.o (by rw[dW.o];rfl);have HY:Hd (VS b s q 0 c U/\w.grownBy U (some b)):=HU.o;clear dW HG HZ HU;go_wp2_with (go_at_call 221;refine(CD.o _).mono ?_;rintro e w' ⟨rfl,rfl⟩)
        all_goals
         go_quiet (fail);go_wp2;go_roundw
         case rel=>exact⟨false,q,c,0,rfl,by have:=aU.o;omega,by have:=aU.o;omega,HY.o.1.drew _,aj HY.o.2 _,fun _=>⟨fun h=>absurd h (by decide),fun _=>ed.o⟩,fun h=>absurd rfl h⟩
         case measure =>
          have e2:=(HY.o.1.drew nq).place;rw[eG.o];refine Nat.lt_of_le_of_lt (Nat.le_of_eq (congrArg (fun x=>2*(s.size-x)+0) e2)) ?_;have:=aU.o;show 2*(s.size-q)+0<2*(s.size-j)+1;omega
       | true =>
        cases ad with
        | false =>
         have ed:Hd (R=(0,q)):=HG.o (by rw[dW.o];rfl);have HY:Hd (VS b s q 0 c U/\w.grownBy U (some b)):=HU.o;clear dW HG HZ HU;go_wp2_with (go_at_call 221;refine(CD.o _).mono ?_;rintro e w' ⟨rfl,rfl⟩)
         all_goals
          go_quiet (fail);go_wp2;go_roundw
          case rel=>exact⟨false,q,c,0,rfl,by have:=aU.o;omega,by have:=aU.o;omega,HY.o.1.drew _,aj HY.o.2 _,fun _=>⟨fun h=>absurd h (by decide),fun _=>ed.o⟩,fun h=>absurd rfl h⟩
          case measure =>
           have e2:=(HY.o.1.drew nq).place;rw[eG.o];refine Nat.lt_of_le_of_lt (Nat.le_of_eq (congrArg (fun x=>2*(s.size-x)+0) e2)) ?_;have:=aU.o;show 2*(s.size-q)+0<2*(s.size-j)+1;omega
        | true =>
         cases m2:decide ((1:Int)<(X.size:Int)) with
         | false =>
          have ed:Hd (R=(0,q)):=HG.o (by
           rw[dW.o];have h1:=of_decide_eq_false m2;have h2:=rO.o;rw[show decide (1<k)=false from by simp;omega];rfl)
          have HY:Hd (VS b s q 0 c U/\w.grownBy U (some b)):=HU.o;clear dW HG HZ HU;go_wp2_with (go_at_call 221;refine(CD.o _).mono ?_;rintro e w' ⟨rfl,rfl⟩)
          all_goals
           go_quiet (fail);go_wp2;go_roundw
           case rel=>exact⟨false,q,c,0,rfl,by have:=aU.o;omega,by have:=aU.o;omega,HY.o.1.drew _,aj HY.o.2 _,fun _=>⟨fun h=>absurd h (by decide),fun _=>ed.o⟩,fun h=>absurd rfl h⟩
           case measure =>
            have e2:=(HY.o.1.drew nq).place;rw[eG.o];refine Nat.lt_of_le_of_lt (Nat.le_of_eq (congrArg (fun x=>2*(s.size-x)+0) e2)) ?_;have:=aU.o;show 2*(s.size-q)+0<2*(s.size-j)+1;omega
         | true =>
          cases m3:((X[0].toNat:Int) == 48) with
          | false =>
           have ed:Hd (R=(0,q)):=HG.o (by
            rw[dW.o,HT0.o];rw[show decide (some X[0]=some (48:UInt8))=false from by
             simp only[decide_eq_false_iff_not];intro e;have:=Option.some.inj e;rw[this]at m3;exact absurd m3 (by decide)]
            simp)
           have HY:Hd (VS b s q 0 c U/\w.grownBy U (some b)):=HU.o;clear dW HG HZ HU;go_wp2_with (go_at_call 221;refine(CD.o _).mono ?_;rintro e w' ⟨rfl,rfl⟩)
           all_goals
            go_quiet (fail);go_wp2;go_roundw
            case rel=>exact⟨false,q,c,0,rfl,by have:=aU.o;omega,by have:=aU.o;omega,HY.o.1.drew _,aj HY.o.2 _,fun _=>⟨fun h=>absurd h (by decide),fun _=>ed.o⟩,fun h=>absurd rfl h⟩
            case measure =>
             have e2:=(HY.o.1.drew nq).place;rw[eG.o];refine Nat.lt_of_le_of_lt (Nat.le_of_eq (congrArg (fun x=>2*(s.size-x)+0) e2)) ?_;have:=aU.o;show 2*(s.size-q)+0<2*(s.size-j)+1;omega
          | true =>
           have ed:Hd (R=(2,j)):=by
            show R=(2,j);rw[<-HZ.o,if_pos];have h1:=of_decide_eq_true m2;have h2:=rO.o;rw[dW.o,HT0.o,show decide (1<k)=true from by simp;omega,show X[0]=48 from UInt8.toNat_inj.1 (by simp at m3;show X[0].toNat=48;omega)];decide
           clear dW HG HZ;go_wp2_with (first|(go_at_call 221;refine(CD.o _).mono ?_;rintro e w' ⟨rfl,rfl⟩)|(go_at_call 166;refine(je b s q c 2 j _ HU.o.1).mono ?_))
           all_goals rintro e w1 ⟨rfl,hr,hg⟩
           all_goals
            have y0:=hr.c0;have y1:=hr.c1;have yf:=hr.f1;have HY:Hd (VS b s q 2 j w1/\w.grownBy w1 (some b)):=⟨hr,ah HU.o.2 hg⟩;clear hr hg g0 g1 gf HU;go_wp2
            all_goals
             go_quiet (fail);go_wp2;go_roundw
             case rel=>exact⟨false,q,j,2,rfl,by have:=aU.o;omega,by have:=aU.o;omega,HY.o.1.drew _,aj HY.o.2 _,fun h=>absurd h (by decide),fun _=>ed.o⟩
             case measure =>
              have e2:=(HY.o.1.drew nq).place;rw[eG.o];refine Nat.lt_of_le_of_lt (Nat.le_of_eq (congrArg (fun x=>2*(s.size-x)+0) e2)) ?_;have:=aU.o;show 2*(s.size-q)+0<2*(s.size-j)+1;omega
end Go.Proofs.YtnnbgjaphfhibaaGreatDoor
