import Derived.Test.YtiinliaoojfjaaaGreatDoorF29
set_option linter.all false
set_option maxRecDepth 100000
set_option maxHeartbeats 0
open Go.Proofs.Tryz
namespace Go.Proofs.YtiinliaoojfjaaaGreatDoor
open Go.RowKit
def VZ(b:Nat)(s:ByteArray)(E:Int)(a:Nat)(w:World)(e:Ending)(w':World):Prop:=∃(v:Int) (j:Nat),e=.returned (.int .i64 v)/\VS b s j E a w'/\w.grownBy w' (some b)/\j<=s.size
theorem afr(b:Nat)(s:ByteArray)(i:Nat)(E:Int)(hE:E≠0)(a:Nat)(w:World)(hi:i<=s.size)(h:VS b s i E a w)(hs:s.size<2 ^ 62) :
  Calls prog 45 #[.pointer (some ⟨b,0,none⟩)] w (VZ b s E a w):=by
 have qX:=ae hE;clear hE;have h1:=h.c1;have HR:=ae h;have hsl:s.data.toList.length=s.size:=by simp
 have hle:i+runN aP s.data.toList i<=s.size:=by have:=mG aP s.data.toList i (by rw[hsl];exact hi);rw[hsl]at this;exact this
 have hln:=pV s.data.toList i (runN aP s.data.toList i) (by rw[hsl];exact hle);have hall:=yL aP s.data.toList i;obtain⟨k,hk⟩:=zN (runN aP s.data.toList i);have HS:Hd (∀hj:i+k<s.size,aP s[i+k]=false):=by
  show ∀hj:i+k<s.size,aP s[i+k]=false;intro hj;have:=uZ aP s.data.toList i (by rw[hk];simpa using hj);simp only[hk]at this;exact this
 rw[hk]at hle hln hall;obtain⟨T,hT⟩:=zN (aO s.data.toList i k);have zi:Hd (∀m (hm:m<k) (h2:i+m<s.size) (h3:m<T.length),s[i+m]=T[m]):=by
  show ∀m (hm:m<k) (h2:i+m<s.size) (h3:m<T.length),s[i+m]=T[m];intro m hm h2 h3;have e1:T[m]?=s.data.toList[i+m]?:=by rw[<-hT];unfold aO;rw[List.getElem?_take_of_lt hm,List.getElem?_drop]
  rw[iR s (i+m) h2,List.getElem?_eq_getElem h3]at e1;exact(Option.some.inj e1).symm
 rw[hT]at hln hall;have HP:Hd (∀(v:Int) (j:Nat) (w':World),VS b s j E a w'->w.grownBy w' (some b)->j<=s.size->VZ b s E a w (.returned (.int .i64 v)) w'):=fun v j w' h1 h2 h3=>⟨v,j,rfl,h1,h2,h3⟩
 have HD:Hd (∀m j (hm:m<k) (hj:j=i+m) (h2:j<s.size),aP s[j]=true):=by
  show ∀m j (hm:m<k) (hj:j=i+m) (h2:j<s.size),aP s[j]=true;intro m j hm hj h2;subst hj;rw[zi.o m hm h2 (by omega)];exact List.all_eq_true.1 hall _ (List.getElem_mem _)
 have EH:Hd (∀m j (hm:m<k) (hj:j=i+m) (h2:j<s.size),fZ (T.take (m+1))=rQ (fZ (T.take m)) s[j]):=by
  show ∀m j (hm:m<k) (hj:j=i+m) (h2:j<s.size),fZ (T.take (m+1))=rQ (fZ (T.take m)) s[j];intro m j hm hj h2;subst hj;rw[zi.o m hm h2 (by omega)];exact Le T m (by omega)
 have HC:Hd (T.length=k/\∀m,m<=k->(0<=fZ (T.take m)/\fZ (T.take m)<=9999999999)/\(aY (T.take m)<=999999999->fZ (T.take m)=aY (T.take m))/\(999999999<aY (T.take m)->999999999<fZ (T.take m))):=⟨hln,fun m hm=>Tm T hall m (by omega)⟩;have HL:=ae hle;clear hk hT hln hall h hsl hle hi;go_enter func45,ntmps45;go_wp2;go_loopw [4] (fun vn wr=>∃m j:Nat,j=i+m/\m<=k/\vn=.int .i64 (fZ (T.take m))/\VS b s j E a wr/\w.grownBy wr (some b)) (fun _ wr=>s.size-placeOf b wr)
 case atStart=>exact⟨0,i,rfl,Nat.zero_le _,rfl,HR.o,ai _ _⟩
 case round =>
  obtain⟨m,j,hj,hmk,rfl,hrs,hgb⟩:=hrel;have d0:=hrs.c0;have d1:=hrs.c1;have df:=hrs.f1;have aA:=ae hrs;have aZ:=ae hgb;have hil:=HL.o;have hcb:=(HC.o.2 m hmk).1;clear hrs hgb h1 HR
  by_cases hlt:m<k
  ·have hjs:j<s.size:=by omega
   have hD:=HD.o m j hlt hj hjs;have hdg:=uY hD;have bC:=ae (EH.o m j hlt hj hjs);have HK:Hd (m<k/\j=i+m/\j<s.size):=⟨hlt,hj,hjs⟩;obtain⟨v,hv⟩:∃v,v=fZ (T.take m):=⟨_,rfl⟩;rw[<-hv]at hcb bC;rw[<-hv];clear hv hlt hil hmk hj;have hlt2:(j:Int)<(s.size:Int):=by omega
   have hw:IntKind.i64.wrap ((j:Int)+1)=((j+1:Nat):Int):=by rw[IntKind.wrap_i64];omega
   by_cases hb:v<=999999999
   ·have r1:IntKind.i64.wrap (10*v)=10*v:=by rw[IntKind.wrap_i64];omega
    have r2:IntKind.i64.wrap (10*v+(s[j].toNat:Int))=10*v+(s[j].toNat:Int):=by rw[IntKind.wrap_i64];omega
    have r3:IntKind.i64.wrap (10*v+(s[j].toNat:Int)-48)=10*v+(s[j].toNat:Int)-48:=by rw[IntKind.wrap_i64];omega
    have HN:Hd (10*v+(s[j].toNat:Int)-48=fZ (T.take (m+1))):=by show _=_;rw[bC.o];unfold rQ;rw[if_pos hb];omega
    go_wp2;go_quiet (first|(go_at_call 72;exact Calls.quiet_of_same (mJ _ _)));go_wp2;have iT:=ae aA.o.place;obtain⟨W,hW⟩:=zN (wr.drewN nq);have e0:W.cell? ⟨b,0,none⟩=some (.string s):=by rw[<-hW];exact d0
    have e1:W.cell? ⟨b,1,none⟩=some (.int .i64 (j:Int)):=by rw[<-hW];exact d1
    have ef:W.frozen? ⟨b,1,none⟩=false:=by rw[<-hW];exact df
    have HW:Hd (VS b s j E a W/\w.grownBy W (some b)):=by
     show VS b s j E a W/\w.grownBy W (some b);rw[<-hW];exact⟨aA.o.drew _,aH aZ.o _⟩
    rw[hW];clear hW d0 d1 df aA aZ;go_quiet (fail);go_wp2;go_roundw
    case rel=>exact⟨m+1,j+1,by have:=HK.o;omega,by have:=HK.o;omega,by rw[<-HN.o],(HW.o.1.drew _).set1 (j+1),bI (aH HW.o.2 _) _ _⟩
    case measure =>
     have e2:=((HW.o.1.drew nq).set1 (j+1)).place;rw[iT.o];exact Nat.lt_of_le_of_lt (Nat.le_of_eq (congrArg (s.size - ·) e2)) (by omega)
   ·have HN:Hd (v=fZ (T.take (m+1))):=by show _=_;rw[bC.o];unfold rQ;rw[if_neg hb]
    go_wp2;go_quiet (first|(go_at_call 72;exact Calls.quiet_of_same (mJ _ _)));go_wp2;go_roundw
    case rel=>exact⟨m+1,j+1,by have:=HK.o;omega,by have:=HK.o;omega,by rw[<-HN.o],(aA.o.drew _).set1 (j+1),bI (aH aZ.o _) _ _⟩
    case measure =>
     have e1:=aA.o.place;have e2:=((aA.o.drew nq).set1 (j+1)).place;rw[e1];exact Nat.lt_of_le_of_lt (Nat.le_of_eq (congrArg (s.size - ·) e2)) (by omega)
  ·have xO:m=k:=by omega
   subst m;obtain⟨v,hv⟩:∃v,v=fZ (T.take k):=⟨_,rfl⟩;have EI:=List.take_of_length_le (by rw[HC.o.1];exact Nat.le_refl _);have iZ:Hd ((aY T<=999999999->v=aY T)/\(999999999<aY T->999999999<v)):=by
    have:=(HC.o.2 k hmk).2;rw[EI]at this hv;show(aY T<=999999999->v=aY T)/\(999999999<aY T->999999999<v);rw[hv];exact this
   have hv0:k=0->v=0:=fun h=>by rw[hv,h];rfl
   rw[<-hv]at hcb;rw[<-hv];have iH:Hd (j=i+k/\i+k<=s.size):=⟨hj,hil⟩;clear hv EI HD EH HC zi hlt hmk hil
   by_cases hjs:j<s.size
   ·have hD:aP s[j]=false:=by subst hj;exact HS.o hjs
    have hlt2:(j:Int)<(s.size:Int):=by omega
    clear HS HL hj;go_wp2;go_quiet (first|(go_at_call 72;exact Calls.quiet_of_same (mJ _ _)));obtain⟨W,hW⟩:=zN (wr.drewN nq);have e0:W.cell? ⟨b,0,none⟩=some (.string s):=by rw[<-hW];exact d0
    have e1:W.cell? ⟨b,1,none⟩=some (.int .i64 (j:Int)):=by rw[<-hW];exact d1
    have ef:W.frozen? ⟨b,1,none⟩=false:=by rw[<-hW];exact df
    have HW:Hd (VS b s j E a W/\w.grownBy W (some b)):=by
     show VS b s j E a W/\w.grownBy W (some b);rw[<-hW];exact⟨aA.o.drew _,aH aZ.o _⟩
    rw[hW];clear hW d0 d1 df aA aZ;have hj:=iH.o.1;have hil:=iH.o.2;have q2:IntKind.i64.wrap ((j:Int)-(i:Int))=(k:Int):=by rw[IntKind.wrap_i64];omega
    by_cases hk0:k=0
    ·have q1:((j:Int) == (i:Int))=true:=by simp;omega
     have q5:decide ((999999999:Int)<v)=false:=by simp;have:=hv0 hk0;omega
     have HO:=ae hk0;clear hk0 hv0 hj hil q2;go_wp2_with (go_at_call 48;refine(qi b s j E qX.o a 2 i _ HW.o.1).mono ?_);rintro e w1 ⟨rfl,hr,hg⟩;go_wp2;go_ret;exact HP.o _ j _ hr (ag HW.o.2 hg) (by have:=iH.o;omega)
    ·have q1:((j:Int) == (i:Int))=false:=by simp;omega
     have his:i<s.size:=by omega
     have hgd:=iR s i his
     by_cases h1k:1<k
     ·have q3:decide ((1:Int)<(k:Int))=true:=by simp;omega
      cases q4:((s[i].toNat:Int) == 48) with
      | true =>
       have HO:Hd (¬k=0/\(1<k/\s.data.toList[i]?=some 48)):=⟨hk0,h1k,by rw[hgd];congr 1;exact UInt8.toNat_inj.1 (by simp at q4;show s[i].toNat=48;omega)⟩;clear hgd hk0 hv0 hj hil
       cases q5:decide ((999999999:Int)<v) with
       | true =>
        go_wp2_with (go_at_call 48;refine(qi b s j E qX.o a 2 i _ HW.o.1).mono ?_);rintro e w1 ⟨rfl,hr,hg⟩;go_wp2_with (go_at_call 48;refine(qi b s j E qX.o a 3 i _ hr).mono ?_);rintro e w2 ⟨rfl,hr2,hg2⟩;go_wp2;go_ret;exact HP.o _ j _ hr2 (ag (ag HW.o.2 hg) hg2) (by have:=iH.o;omega)
       | false =>
        go_wp2_with (go_at_call 48;refine(qi b s j E qX.o a 2 i _ HW.o.1).mono ?_);rintro e w1 ⟨rfl,hr,hg⟩;go_wp2;go_ret;exact HP.o _ j _ hr (ag HW.o.2 hg) (by have:=iH.o;omega)
      | false =>
       have HO:Hd (¬k=0/\¬(1<k/\s.data.toList[i]?=some 48)):=⟨hk0,fun h=>by
        have:=h.2;rw[hgd]at this;have e:=Option.some.inj this;rw[e]at q4;simp at q4⟩
       clear hgd hk0 hv0;have HJ:=ae hj;clear hj hil
       cases q5:decide ((999999999:Int)<v) with
       | true =>
        have HB:Hd (aY T > 999999999):=by
         show aY T > 999999999;have h1:=of_decide_eq_true q5;refine Int.not_le.1 (fun h2=>?_);have:=iZ.o.1 h2;omega
        go_wp2_with (go_at_call 48;refine(qi b s j E qX.o a 3 i _ HW.o.1).mono ?_);rintro e w1 ⟨rfl,hr,hg⟩;go_wp2;go_ret;exact HP.o _ j _ hr (ag HW.o.2 hg) (by have:=iH.o;omega)
       | false =>
        have HB:Hd (¬aY T > 999999999):=by
         show ¬aY T > 999999999;have h1:=of_decide_eq_false q5;exact fun h2=>h1 (iZ.o.2 h2)
        have HE:=ae (iZ.o.1 (Int.not_lt.1 HB.o));go_wp2;go_ret;exact HP.o _ j _ HW.o.1 HW.o.2 (by have:=iH.o;omega)
     ·have q3:decide ((1:Int)<(k:Int))=false:=by simp;omega
      have HO:Hd (¬k=0/\¬(1<k/\s.data.toList[i]?=some 48)):=⟨hk0,fun h=>h1k h.1⟩;clear hgd hk0 hv0;have HJ:=ae hj;clear hj hil
      cases q5:decide ((999999999:Int)<v) with
      | true =>
       have HB:Hd (aY T > 999999999):=by
        show aY T > 999999999;have h1:=of_decide_eq_true q5;refine Int.not_le.1 (fun h2=>?_);have:=iZ.o.1 h2;omega
       go_wp2_with (go_at_call 48;refine(qi b s j E qX.o a 3 i _ HW.o.1).mono ?_);rintro e w1 ⟨rfl,hr,hg⟩;go_wp2;go_ret;exact HP.o _ j _ hr (ag HW.o.2 hg) (by have:=iH.o;omega)
      | false =>
       have HB:Hd (¬aY T > 999999999):=by
        show ¬aY T > 999999999;have h1:=of_decide_eq_false q5;exact fun h2=>h1 (iZ.o.2 h2)
       have HE:=ae (iZ.o.1 (Int.not_lt.1 HB.o));go_wp2;go_ret;exact HP.o _ j _ HW.o.1 HW.o.2 (by have:=iH.o;omega)
   ·have hd2:decide ((j:Int)<(s.size:Int))=false:=by simp;omega
    clear HS HL hj;go_wp2;go_quiet (fail);obtain⟨W,hW⟩:=zN (wr.drewN nq);have e0:W.cell? ⟨b,0,none⟩=some (.string s):=by rw[<-hW];exact d0
    have e1:W.cell? ⟨b,1,none⟩=some (.int .i64 (j:Int)):=by rw[<-hW];exact d1
    have ef:W.frozen? ⟨b,1,none⟩=false:=by rw[<-hW];exact df
    have HW:Hd (VS b s j E a W/\w.grownBy W (some b)):=by
     show VS b s j E a W/\w.grownBy W (some b);rw[<-hW];exact⟨aA.o.drew _,aH aZ.o _⟩
    rw[hW];clear hW d0 d1 df aA aZ;have hj:=iH.o.1;have hil:=iH.o.2;have q2:IntKind.i64.wrap ((j:Int)-(i:Int))=(k:Int):=by rw[IntKind.wrap_i64];omega
    by_cases hk0:k=0
    ·have q1:((j:Int) == (i:Int))=true:=by simp;omega
     have q5:decide ((999999999:Int)<v)=false:=by simp;have:=hv0 hk0;omega
     have HO:=ae hk0;clear hk0 hv0 hj hil q2;go_wp2_with (go_at_call 48;refine(qi b s j E qX.o a 2 i _ HW.o.1).mono ?_);rintro e w1 ⟨rfl,hr,hg⟩;go_wp2;go_ret;exact HP.o _ j _ hr (ag HW.o.2 hg) (by have:=iH.o;omega)
    ·have q1:((j:Int) == (i:Int))=false:=by simp;omega
     have his:i<s.size:=by omega
     have hgd:=iR s i his
     by_cases h1k:1<k
     ·have q3:decide ((1:Int)<(k:Int))=true:=by simp;omega
      cases q4:((s[i].toNat:Int) == 48) with
      | true =>
       have HO:Hd (¬k=0/\(1<k/\s.data.toList[i]?=some 48)):=⟨hk0,h1k,by rw[hgd];congr 1;exact UInt8.toNat_inj.1 (by simp at q4;show s[i].toNat=48;omega)⟩;clear hgd hk0 hv0 hj hil
       cases q5:decide ((999999999:Int)<v) with
       | true =>
        go_wp2_with (go_at_call 48;refine(qi b s j E qX.o a 2 i _ HW.o.1).mono ?_);rintro e w1 ⟨rfl,hr,hg⟩;go_wp2_with (go_at_call 48;refine(qi b s j E qX.o a 3 i _ hr).mono ?_);rintro e w2 ⟨rfl,hr2,hg2⟩;go_wp2;go_ret;exact HP.o _ j _ hr2 (ag (ag HW.o.2 hg) hg2) (by have:=iH.o;omega)
       | false =>
        go_wp2_with (go_at_call 48;refine(qi b s j E qX.o a 2 i _ HW.o.1).mono ?_);rintro e w1 ⟨rfl,hr,hg⟩;go_wp2;go_ret;exact HP.o _ j _ hr (ag HW.o.2 hg) (by have:=iH.o;omega)
      | false =>
       have HO:Hd (¬k=0/\¬(1<k/\s.data.toList[i]?=some 48)):=⟨hk0,fun h=>by
        have:=h.2;rw[hgd]at this;have e:=Option.some.inj this;rw[e]at q4;simp at q4⟩
       clear hgd hk0 hv0;have HJ:=ae hj;clear hj hil
       cases q5:decide ((999999999:Int)<v) with
       | true =>
        have HB:Hd (aY T > 999999999):=by
         show aY T > 999999999;have h1:=of_decide_eq_true q5;refine Int.not_le.1 (fun h2=>?_);have:=iZ.o.1 h2;omega
        go_wp2_with (go_at_call 48;refine(qi b s j E qX.o a 3 i _ HW.o.1).mono ?_);rintro e w1 ⟨rfl,hr,hg⟩;go_wp2;go_ret;exact HP.o _ j _ hr (ag HW.o.2 hg) (by have:=iH.o;omega)
       | false =>
        have HB:Hd (¬aY T > 999999999):=by
         show ¬aY T > 999999999;have h1:=of_decide_eq_false q5;exact fun h2=>h1 (iZ.o.2 h2)
        have HE:=ae (iZ.o.1 (Int.not_lt.1 HB.o));go_wp2;go_ret;exact HP.o _ j _ HW.o.1 HW.o.2 (by have:=iH.o;omega)
     ·have q3:decide ((1:Int)<(k:Int))=false:=by simp;omega
      have HO:Hd (¬k=0/\¬(1<k/\s.data.toList[i]?=some 48)):=⟨hk0,fun h=>h1k h.1⟩;clear hgd hk0 hv0;have HJ:=ae hj;clear hj hil
      cases q5:decide ((999999999:Int)<v) with
      | true =>
       have HB:Hd (aY T > 999999999):=by
        show aY T > 999999999;have h1:=of_decide_eq_true q5;refine Int.not_le.1 (fun h2=>?_);have:=iZ.o.1 h2;omega
       go_wp2_with (go_at_call 48;refine(qi b s j E qX.o a 3 i _ HW.o.1).mono ?_);rintro e w1 ⟨rfl,hr,hg⟩;go_wp2;go_ret;exact HP.o _ j _ hr (ag HW.o.2 hg) (by have:=iH.o;omega)
      | false =>
       have HB:Hd (¬aY T > 999999999):=by
        show ¬aY T > 999999999;have h1:=of_decide_eq_false q5;exact fun h2=>h1 (iZ.o.2 h2)
       have HE:=ae (iZ.o.1 (Int.not_lt.1 HB.o));go_wp2;go_ret;exact HP.o _ j _ HW.o.1 HW.o.2 (by have:=iH.o;omega)
theorem IX(g b:Nat)(s:ByteArray)(i:Nat)(c:UInt8)(a:Nat)(w:World)(hi:i<=s.size)(hg:GR g b w)(h:VS b s i 0 a w)(hs:s.size<2 ^ 61) :
  Calls prog 44 #[.pointer (some ⟨g,0,none⟩),.string ⟨#[c]⟩] w fun e w'=>e=.returned (.bool (decide (s.data.toList[i]?=some c)))/\∃n,w'=w.drewN n:=by
 have:=ND g b s ⟨#[c]⟩ i a w hi hg h hs (by show 1 < _;decide);rw[show(ByteArray.mk #[c]).data.toList=[c] from rfl,qO]at this;exact this
theorem V4(g b:Nat)(s:ByteArray)(i:Nat)(a:Nat)(w:World)(hi:i<=s.size)(hg:GR g b w)(h:VS b s i 0 a w)(hs:s.size<2 ^ 61) :
  Calls prog 44 #[.pointer (some ⟨g,0,none⟩),.string ⟨#[124,124]⟩] w fun e w'=>e=.returned (.bool (kF s.data.toList i))/\∃n,w'=w.drewN n:=by
 have:=ND g b s ⟨#[124,124]⟩ i a w hi hg h hs (by show 2 < _;decide);rw[show(ByteArray.mk #[124,124]).data.toList=[124,124] from rfl,IR]at this;exact this
theorem afs(l:List UInt8)(i:Nat)(hi:i<=l.length):(∀j,i<=j->j<aj l i->l[j]?=some 32)/\¬l[aj l i]?=some 32:=by
 constructor
 ·intro j h1 h2;unfold aj at h2;obtain⟨g1,g2⟩:=Az isSp l i (j-i) (by omega);have e:i+(j-i)=j:=by omega
  simp only[e]at g1 g2;rw[List.getElem?_eq_getElem g1];unfold isSp at g2;simpa using g2
 ·intro h;have hlt:=(List.getElem?_eq_some_iff.1 h).1;have:=uZ isSp l i hlt;have e:=(List.getElem?_eq_some_iff.1 h).2;have e3:isSp 32=false:=by rw[<-e];exact this
  exact absurd e3 (by decide)
theorem V5(g b:Nat)(s:ByteArray)(i:Nat)(a:Nat)(w:World)(hi:i<=s.size)(hgb:g≠b)(hg:GR g b w)(h:VS b s i 0 a w)(hs:s.size<2 ^ 61) :
  Calls prog 42 #[.pointer (some ⟨g,0,none⟩)] w fun e w'=>e=.returned (.bool (decide (i<aj s.data.toList i)))/\VS b s (aj s.data.toList i) 0 a w'/\w.grownBy w' (some b):=by
 obtain⟨h1,h2⟩:=afs s.data.toList i (by simpa using hi);have hN:=qV s.data.toList i (by simpa using hi);have hge:=sG s.data.toList i;obtain⟨N,hNN⟩:=zN (aj s.data.toList i);rw[hNN]at h1 h2 hN hge ⊢;have HC:=ae (fun j w (hj:j<=s.size) (hg:GR g b w) (h:VS b s j 0 a w)=>IX g b s j 32 a w hj hg h hs);have HS:Hd ((∀j,i<=j->j<N->s.data.toList[j]?=some 32)/\¬s.data.toList[N]?=some 32/\N<=s.size/\i<=N):=⟨h1,h2,by simpa using hN,hge⟩;have HB:=ae hgb;have HG:=ae hg;have HV:=ae h;have c1:=h.c1;have g0:w.cell? ⟨g,0,none⟩=some (.pointer (some ⟨b,0,none⟩)):=hg;have nN:=ae hs;clear h1 h2 hN hge hNN h hg hgb hs hi;go_enter func42,ntmps42;go_wp2;go_loopw [] (fun wr=>∃j:Nat,i<=j/\j<=N/\VS b s j 0 a wr/\GR g b wr/\w.grownBy wr (some b)) (fun wr=>s.size-placeOf b wr)
 case atStart=>exact⟨i,Nat.le_refl _,HS.o.2.2.2,HV.o,HG.o,ai _ _⟩
 case round =>
  obtain⟨j,hij,hjn,hv,hgr,hgw⟩:=hrel;clear HV HG c1 g0;have HV:=ae hv;have HG:=ae hgr;have HW:=ae hgw;have iT:=ae hv.place;have CI:=ae (fun w (h1:GR g b w) (h2:VS b s j 0 a w)=>HC.o j w (by have:=HS.o;omega) h1 h2);clear hv hgr hgw
  by_cases hlt:j<N
  ·rw[decide_eq_true (HS.o.1 j hij hlt)]at CI;have hw:IntKind.i64.wrap ((j:Int)+1)=((j+1:Nat):Int):=by rw[IntKind.wrap_i64];have:=HS.o;have:=nN.o;omega
   have HJ:Hd (i<=j/\j<N):=⟨hij,hlt⟩;clear hij hjn hlt;go_wp2_with (go_at_call 44;refine(CI.o _ HG.o HV.o).mono ?_);rintro e u1 ⟨rfl,n,hn⟩;replace HV:Hd (VS b s j 0 a u1):=by show VS b s j 0 a u1;rw[hn];exact HV.o.drew n
   replace HG:Hd (GR g b u1):=by show GR g b u1;rw[hn];exact HG.o
   replace HW:Hd (w.grownBy u1 (some b)):=by show w.grownBy u1 (some b);rw[hn];exact aH HW.o n
   clear hn;have c1:=HV.o.c1;have f1:=HV.o.f1;have g0:u1.cell? ⟨g,0,none⟩=some (.pointer (some ⟨b,0,none⟩)):=HG.o;go_wp2;go_roundw
   case rel=>exact⟨j+1,by have:=HJ.o;omega,by have:=HJ.o;omega,HV.o.set1 (j+1),HG.o.other HB.o _ _,bI HW.o _ _⟩
   case measure =>
    have e2:=(HV.o.set1 (j+1)).place;rw[iT.o];exact Nat.lt_of_le_of_lt (Nat.le_of_eq (congrArg (s.size - ·) e2)) (by have:=HJ.o;have:=HS.o;omega)
  ·have hjN:j=N:=by omega
   subst hjN;rw[decide_eq_false HS.o.2.1]at CI;clear hij hjn hlt;go_wp2_with (go_at_call 44;refine(CI.o _ HG.o HV.o).mono ?_);rintro e u1 ⟨rfl,n,hn⟩;replace HV:Hd (VS b s j 0 a u1):=by show VS b s j 0 a u1;rw[hn];exact HV.o.drew n
   replace HG:Hd (GR g b u1):=by show GR g b u1;rw[hn];exact HG.o
   replace HW:Hd (w.grownBy u1 (some b)):=by show w.grownBy u1 (some b);rw[hn];exact aH HW.o n
   clear hn;have c1:=HV.o.c1;have g0:u1.cell? ⟨g,0,none⟩=some (.pointer (some ⟨b,0,none⟩)):=HG.o;go_wp2;go_ret;exact⟨bi (by simp),HV.o,HW.o⟩
theorem aft(g b:Nat)(s:ByteArray)(i:Nat)(E:Int)(a:Nat)(w:World)(hE:¬E=0)(hg:GR g b w)(h:VS b s i E a w) :
  Calls prog 42 #[.pointer (some ⟨g,0,none⟩)] w fun e w'=>e=.returned (.bool false)/\∃n,w'=w.drewN n:=by
 have HC:Hd (∀w,GR g b w->VS b s i E a w->Calls prog 44 #[.pointer (some ⟨g,0,none⟩),.string ⟨#[32]⟩] w fun e w'=>e=.returned (.bool (false))/\∃n,w'=w.drewN n):=fun w hg h=>Fv g b s _ i E a w hE hg h
 have HG:=ae hg;have HV:=ae h;have c1:=h.c1;have g0:w.cell? ⟨g,0,none⟩=some (.pointer (some ⟨b,0,none⟩)):=hg;clear h hg hE;go_enter func42,ntmps42;go_wp2;go_loopw [] (fun wr=>VS b s i E a wr/\GR g b wr/\∃n,wr=w.drewN n) (fun wr=>0)
 case atStart=>exact⟨HV.o,HG.o,0,rfl⟩
 case round =>
  obtain⟨hv,hgr,m,hm⟩:=hrel;clear HV HG c1 g0;have HV:=ae hv;have HG:=ae hgr;have HM:=ae hm;clear hv hgr hm;go_wp2_with (go_at_call 44;refine(HC.o _ HG.o HV.o).mono ?_);rintro e u1 ⟨rfl,n,hn⟩;replace HV:Hd (VS b s i E a u1):=by show VS b s i E a u1;rw[hn];exact HV.o.drew n
  replace HG:Hd (GR g b u1):=by show GR g b u1;rw[hn];exact HG.o
  have HN:Hd (u1=w.drewN (m+n)):=by show u1=_;rw[hn,HM.o,World.drewN_drewN]
  clear hn;have c1:=HV.o.c1;have g0:u1.cell? ⟨g,0,none⟩=some (.pointer (some ⟨b,0,none⟩)):=HG.o;go_wp2;go_ret;exact⟨bi (by simp),_,HN.o⟩
theorem afu(g b:Nat)(s:ByteArray)(i:Nat)(E:Int)(a:Nat)(w:World)(hE:¬E=0)(hg:GR g b w)(h:VS b s i E a w) :
  Calls prog 74 #[.pointer (some ⟨g,0,none⟩)] w fun e w'=>e=.returned (.bool true)/\∃n,w'=w.drewN n:=by
 have c0:=h.c0;have c1:=h.c1;have c2:=h.c2;have g0:w.cell? ⟨g,0,none⟩=some (.pointer (some ⟨b,0,none⟩)):=hg;have hn:(E == 0)=false:=by simpa using hE
 have hn2:(E != 0)=true:=by simpa using hE
 clear h hg hE;go_enter func74,ntmps74;go_wp2;go_quiet (fail);go_wp2;go_ret;exact⟨rfl,_,rfl⟩
theorem afv(g b:Nat)(s:ByteArray)(i:Nat)(a:Nat)(w:World)(hi:i<=s.size)(hg:GR g b w)(h:VS b s i 0 a w)(hs:s.size<2 ^ 61) :
  Calls prog 74 #[.pointer (some ⟨g,0,none⟩)] w fun e w'=>e=.returned (.bool (dJ s.data.toList i))/\∃n,w'=w.drewN n:=by
 have c0:=h.c0;have c1:=h.c1;have c2:=h.c2;have g0:w.cell? ⟨g,0,none⟩=some (.pointer (some ⟨b,0,none⟩)):=hg;have HC:=ae (fun w (hg:GR g b w) (h:VS b s i 0 a w)=>V4 g b s i a w hi hg h hs);have HG:=ae hg;have HV:=ae h;clear h hg hs
 by_cases hl:s.size<=i
 ·have HE:Hd (dJ s.data.toList i=true):=by show _=_;unfold dJ;rw[decide_eq_true (by simpa using hl)];rfl
  have hd:decide (s.size<=i)=true:=by simp;omega
  rw[HE.o];clear hl hi;go_enter func74,ntmps74;go_wp2;go_quiet (fail);go_wp2;go_ret;exact⟨rfl,_,rfl⟩
 ·have HE:Hd (dJ s.data.toList i=kF s.data.toList i):=by show _=_;unfold dJ;rw[decide_eq_false (by simpa using hl)];rfl
  have hd:decide (s.size<=i)=false:=by simp;omega
  rw[HE.o];obtain⟨r,hr⟩:=zN (kF s.data.toList i);rw[hr]at HC ⊢;clear hl hi hr HE
  cases r with
  | true =>
   go_enter func74,ntmps74;go_wp2;go_quiet (first|(go_at_call 44;exact Calls.quiet_of (HC.o _ (HG.o.drew _) (HV.o.drew _))));go_wp2;go_ret;exact⟨rfl,_,rfl⟩
  | false =>
   go_enter func74,ntmps74;go_wp2;go_quiet (first|(go_at_call 44;exact Calls.quiet_of (HC.o _ (HG.o.drew _) (HV.o.drew _))));go_wp2;go_ret;exact⟨rfl,_,rfl⟩
theorem afw(g b:Nat)(s:ByteArray)(i:Nat)(E:Int)(a:Nat)(w:World)(hE:¬E=0)(hg:GR g b w)(h:VS b s i E a w) :
  Calls prog 107 #[.pointer (some ⟨g,0,none⟩)] w fun e w'=>e=.returned (.bool false)/\∃n,w'=w.drewN n:=by
 have HC:=ae (fun t w (hg:GR g b w) (h:VS b s i E a w)=>Fv g b s t i E a w hE hg h);have HG:=ae hg;have HV:=ae h;clear h hg hE;go_enter func107,ntmps107;go_wp2_with (go_at_call 44;refine(HC.o _ _ HG.o HV.o).mono ?_);rintro e u0 ⟨rfl,n0,hn⟩;replace HV:Hd (VS b s i E a u0):=by show VS b s i E a u0;rw[hn];exact HV.o.drew _
 replace HG:Hd (GR g b u0):=by show GR g b u0;rw[hn];exact HG.o
 have HN:=ae hn;clear hn;go_wp2_with (go_at_call 44;refine(HC.o _ _ HG.o HV.o).mono ?_);rintro e u1 ⟨rfl,n1,hn⟩;replace HV:Hd (VS b s i E a u1):=by show VS b s i E a u1;rw[hn];exact HV.o.drew _
 replace HG:Hd (GR g b u1):=by show GR g b u1;rw[hn];exact HG.o
 replace HN:Hd (u1=w.drewN (n0+n1)):=by show u1=_;rw[hn,HN.o,World.drewN_drewN]
 clear hn;go_wp2_with (go_at_call 44;refine(HC.o _ _ HG.o HV.o).mono ?_);rintro e u2 ⟨rfl,n2,hn⟩;replace HV:Hd (VS b s i E a u2):=by show VS b s i E a u2;rw[hn];exact HV.o.drew _
 replace HG:Hd (GR g b u2):=by show GR g b u2;rw[hn];exact HG.o
 replace HN:Hd (u2=w.drewN (n0+n1+n2)):=by show u2=_;rw[hn,HN.o,World.drewN_drewN]
 clear hn;go_wp2;go_ret;exact⟨rfl,_,HN.o⟩
theorem afx(g b:Nat)(s:ByteArray)(i:Nat)(a:Nat)(w:World)(hi:i<=s.size)(hgb:g≠b)(hg:GR g b w)(h:VS b s i 0 a w)(hs:s.size<2 ^ 61) :
  Calls prog 107 #[.pointer (some ⟨g,0,none⟩)] w fun e w'=>e=.returned (.bool (dW s.data.toList i))/\VS b s (if dW s.data.toList i=true then i+1 else i) 0 a w'/\w.grownBy w' (some b):=by
 have CI:=ae (fun(c:UInt8) w (hg:GR g b w) (h:VS b s i 0 a w)=>IX g b s i c a w hi hg h hs);have gp:Hd (dW s.data.toList i=true->i<s.size):=fun h=>by have:=Iz h;simpa using this
 have nN:=ae hs;have HG:=ae hg;have HV:=ae h;have HW:Hd (w.grownBy w (some b)):=ai _ _;clear h hg hs hi
 by_cases q0:s.data.toList[i]?=some 42
 ·have C0:Hd (∀w,GR g b w->VS b s i 0 a w->Calls prog 44 #[.pointer (some ⟨g,0,none⟩),.string ⟨#[42]⟩] w fun e w'=>e=.returned (.bool (true))/\∃n,w'=w.drewN n):=fun w hg h=>by have:=CI.o 42 w hg h;rw[decide_eq_true q0]at this;exact this
  have HZ:=ae (UT q0);have hw:IntKind.i64.wrap ((i:Int)+1)=((i+1:Nat):Int):=by rw[IntKind.wrap_i64];have:=gp.o HZ.o;have:=nN.o;omega
  rw[HZ.o];clear q0;go_enter func107,ntmps107;go_wp2_with (go_at_call 44;refine(C0.o _ HG.o HV.o).mono ?_);rintro e u0 ⟨rfl,n,hn⟩;replace HV:Hd (VS b s i 0 a u0):=by show VS b s i 0 a u0;rw[hn];exact HV.o.drew _
  replace HG:Hd (GR g b u0):=by show GR g b u0;rw[hn];exact HG.o
  replace HW:Hd (w.grownBy u0 (some b)):=by show w.grownBy u0 (some b);rw[hn];exact aH HW.o _
  clear hn;have c1:=HV.o.c1;have f1:=HV.o.f1;have g0:u0.cell? ⟨g,0,none⟩=some (.pointer (some ⟨b,0,none⟩)):=HG.o;go_wp2;go_ret;exact⟨rfl,HV.o.set1 (i+1),bI HW.o _ _⟩
 ·by_cases q1:s.data.toList[i]?=some 120
  ·have C0:Hd (∀w,GR g b w->VS b s i 0 a w->Calls prog 44 #[.pointer (some ⟨g,0,none⟩),.string ⟨#[42]⟩] w fun e w'=>e=.returned (.bool (false))/\∃n,w'=w.drewN n):=fun w hg h=>by have:=CI.o 42 w hg h;rw[decide_eq_false q0]at this;exact this
   have C1:Hd (∀w,GR g b w->VS b s i 0 a w->Calls prog 44 #[.pointer (some ⟨g,0,none⟩),.string ⟨#[120]⟩] w fun e w'=>e=.returned (.bool (true))/\∃n,w'=w.drewN n):=fun w hg h=>by have:=CI.o 120 w hg h;rw[decide_eq_true q1]at this;exact this
   have HZ:=ae (UU q1);have hw:IntKind.i64.wrap ((i:Int)+1)=((i+1:Nat):Int):=by rw[IntKind.wrap_i64];have:=gp.o HZ.o;have:=nN.o;omega
   rw[HZ.o];clear q0 q1;go_enter func107,ntmps107;go_wp2_with (go_at_call 44;refine(C0.o _ HG.o HV.o).mono ?_);rintro e u0 ⟨rfl,n,hn⟩;replace HV:Hd (VS b s i 0 a u0):=by show VS b s i 0 a u0;rw[hn];exact HV.o.drew _
   replace HG:Hd (GR g b u0):=by show GR g b u0;rw[hn];exact HG.o
   replace HW:Hd (w.grownBy u0 (some b)):=by show w.grownBy u0 (some b);rw[hn];exact aH HW.o _
   clear hn;go_wp2_with (go_at_call 44;refine(C1.o _ HG.o HV.o).mono ?_);rintro e u1 ⟨rfl,n,hn⟩;replace HV:Hd (VS b s i 0 a u1):=by show VS b s i 0 a u1;rw[hn];exact HV.o.drew _
   replace HG:Hd (GR g b u1):=by show GR g b u1;rw[hn];exact HG.o
   replace HW:Hd (w.grownBy u1 (some b)):=by show w.grownBy u1 (some b);rw[hn];exact aH HW.o _
   clear hn;have c1:=HV.o.c1;have f1:=HV.o.f1;have g0:u1.cell? ⟨g,0,none⟩=some (.pointer (some ⟨b,0,none⟩)):=HG.o;go_wp2;go_ret;exact⟨rfl,HV.o.set1 (i+1),bI HW.o _ _⟩
  ·by_cases q2:s.data.toList[i]?=some 88
   ·have C0:Hd (∀w,GR g b w->VS b s i 0 a w->Calls prog 44 #[.pointer (some ⟨g,0,none⟩),.string ⟨#[42]⟩] w fun e w'=>e=.returned (.bool (false))/\∃n,w'=w.drewN n):=fun w hg h=>by have:=CI.o 42 w hg h;rw[decide_eq_false q0]at this;exact this
    have C1:Hd (∀w,GR g b w->VS b s i 0 a w->Calls prog 44 #[.pointer (some ⟨g,0,none⟩),.string ⟨#[120]⟩] w fun e w'=>e=.returned (.bool (false))/\∃n,w'=w.drewN n):=fun w hg h=>by have:=CI.o 120 w hg h;rw[decide_eq_false q1]at this;exact this
    have C2:Hd (∀w,GR g b w->VS b s i 0 a w->Calls prog 44 #[.pointer (some ⟨g,0,none⟩),.string ⟨#[88]⟩] w fun e w'=>e=.returned (.bool (true))/\∃n,w'=w.drewN n):=fun w hg h=>by have:=CI.o 88 w hg h;rw[decide_eq_true q2]at this;exact this
    have HZ:=ae (UV q2);have hw:IntKind.i64.wrap ((i:Int)+1)=((i+1:Nat):Int):=by rw[IntKind.wrap_i64];have:=gp.o HZ.o;have:=nN.o;omega
    rw[HZ.o];clear q0 q1 q2;go_enter func107,ntmps107;go_wp2_with (go_at_call 44;refine(C0.o _ HG.o HV.o).mono ?_);rintro e u0 ⟨rfl,n,hn⟩;replace HV:Hd (VS b s i 0 a u0):=by show VS b s i 0 a u0;rw[hn];exact HV.o.drew _
    replace HG:Hd (GR g b u0):=by show GR g b u0;rw[hn];exact HG.o
    replace HW:Hd (w.grownBy u0 (some b)):=by show w.grownBy u0 (some b);rw[hn];exact aH HW.o _
    clear hn;go_wp2_with (go_at_call 44;refine(C1.o _ HG.o HV.o).mono ?_);rintro e u1 ⟨rfl,n,hn⟩;replace HV:Hd (VS b s i 0 a u1):=by show VS b s i 0 a u1;rw[hn];exact HV.o.drew _
    replace HG:Hd (GR g b u1):=by show GR g b u1;rw[hn];exact HG.o
    replace HW:Hd (w.grownBy u1 (some b)):=by show w.grownBy u1 (some b);rw[hn];exact aH HW.o _
    clear hn;go_wp2_with (go_at_call 44;refine(C2.o _ HG.o HV.o).mono ?_);rintro e u2 ⟨rfl,n,hn⟩;replace HV:Hd (VS b s i 0 a u2):=by show VS b s i 0 a u2;rw[hn];exact HV.o.drew _
    replace HG:Hd (GR g b u2):=by show GR g b u2;rw[hn];exact HG.o
    replace HW:Hd (w.grownBy u2 (some b)):=by show w.grownBy u2 (some b);rw[hn];exact aH HW.o _
    clear hn;have c1:=HV.o.c1;have f1:=HV.o.f1;have g0:u2.cell? ⟨g,0,none⟩=some (.pointer (some ⟨b,0,none⟩)):=HG.o;go_wp2;go_ret;exact⟨rfl,HV.o.set1 (i+1),bI HW.o _ _⟩
   ·have C0:Hd (∀w,GR g b w->VS b s i 0 a w->Calls prog 44 #[.pointer (some ⟨g,0,none⟩),.string ⟨#[42]⟩] w fun e w'=>e=.returned (.bool (false))/\∃n,w'=w.drewN n):=fun w hg h=>by have:=CI.o 42 w hg h;rw[decide_eq_false q0]at this;exact this
    have C1:Hd (∀w,GR g b w->VS b s i 0 a w->Calls prog 44 #[.pointer (some ⟨g,0,none⟩),.string ⟨#[120]⟩] w fun e w'=>e=.returned (.bool (false))/\∃n,w'=w.drewN n):=fun w hg h=>by have:=CI.o 120 w hg h;rw[decide_eq_false q1]at this;exact this
    have C2:Hd (∀w,GR g b w->VS b s i 0 a w->Calls prog 44 #[.pointer (some ⟨g,0,none⟩),.string ⟨#[88]⟩] w fun e w'=>e=.returned (.bool (false))/\∃n,w'=w.drewN n):=fun w hg h=>by have:=CI.o 88 w hg h;rw[decide_eq_false q2]at this;exact this
    have HZ:=ae (UW q0 q1 q2);rw[HZ.o];clear q0 q1 q2;go_enter func107,ntmps107;go_wp2_with (go_at_call 44;refine(C0.o _ HG.o HV.o).mono ?_);rintro e u0 ⟨rfl,n,hn⟩;replace HV:Hd (VS b s i 0 a u0):=by show VS b s i 0 a u0;rw[hn];exact HV.o.drew _
    replace HG:Hd (GR g b u0):=by show GR g b u0;rw[hn];exact HG.o
    replace HW:Hd (w.grownBy u0 (some b)):=by show w.grownBy u0 (some b);rw[hn];exact aH HW.o _
    clear hn;go_wp2_with (go_at_call 44;refine(C1.o _ HG.o HV.o).mono ?_);rintro e u1 ⟨rfl,n,hn⟩;replace HV:Hd (VS b s i 0 a u1):=by show VS b s i 0 a u1;rw[hn];exact HV.o.drew _
    replace HG:Hd (GR g b u1):=by show GR g b u1;rw[hn];exact HG.o
    replace HW:Hd (w.grownBy u1 (some b)):=by show w.grownBy u1 (some b);rw[hn];exact aH HW.o _
    clear hn;go_wp2_with (go_at_call 44;refine(C2.o _ HG.o HV.o).mono ?_);rintro e u2 ⟨rfl,n,hn⟩;replace HV:Hd (VS b s i 0 a u2):=by show VS b s i 0 a u2;rw[hn];exact HV.o.drew _
    replace HG:Hd (GR g b u2):=by show GR g b u2;rw[hn];exact HG.o
    replace HW:Hd (w.grownBy u2 (some b)):=by show w.grownBy u2 (some b);rw[hn];exact aH HW.o _
    clear hn;go_wp2;go_ret;exact⟨rfl,HV.o,HW.o⟩
open Go.RowKit
def VP(v:Nat)(m y1 y2 y3:Int)(x4 x5:ByteArray)(w:World):Prop:=w.heap[v]?=some (.cells #[.int .i64 m,.int .i64 y1,.int .i64 y2,.int .i64 y3,.string x4,.string x5] 105 (0,0))
theorem VP.cells{v:Nat}{m y1 y2 y3:Int}{x4 x5:ByteArray}{w:World}(h:VP v m y1 y2 y3 x4 x5 w):w.cell? ⟨v,0,none⟩=some (.int .i64 m)/\w.cell? ⟨v,1,none⟩=some (.int .i64 y1)/\w.cell? ⟨v,2,none⟩=some (.int .i64 y2)/\w.cell? ⟨v,3,none⟩=some (.int .i64 y3)/\w.cell? ⟨v,4,none⟩=some (.string x4)/\w.cell? ⟨v,5,none⟩=some (.string x5) :=
 ⟨by rw[ah h];rfl,by rw[ah h];rfl,by rw[ah h];rfl,by rw[ah h];rfl,by rw[ah h];rfl,by rw[ah h];rfl⟩
theorem VP.f{v:Nat}{m y1 y2 y3:Int}{x4 x5:ByteArray}{w:World}(h:VP v m y1 y2 y3 x4 x5 w)(o:Nat):w.frozen? ⟨v,o,none⟩=false:=Lib.frozen_of_heap h o
theorem VP.grow{b v:Nat}{m y1 y2 y3:Int}{x4 x5:ByteArray}{w w':World}(h:VP v m y1 y2 y3 x4 x5 w)(hg:w.grownBy w' (some b))(hn:v≠b):VP v m y1 y2 y3 x4 x5 w':=by
 unfold VP at h ⊢;rw[hg.block v ((aC h)) (by simpa using hn)];exact h
theorem VP.grow0{v:Nat}{m y1 y2 y3:Int}{x4 x5:ByteArray}{w w':World}(h:VP v m y1 y2 y3 x4 x5 w)(hg:w.grownBy w' none):VP v m y1 y2 y3 x4 x5 w':=by
 unfold VP at h ⊢;rw[hg.block v ((aC h)) (by simp)];exact h
theorem VP.other{v u:Nat}{m y1 y2 y3:Int}{x4 x5:ByteArray}{w:World}(h:VP v m y1 y2 y3 x4 x5 w)(hn:v≠u)(o:Nat)(x:Value):VP v m y1 y2 y3 x4 x5 (w.setCell ⟨u,o,none⟩ x):=by
 unfold VP at h ⊢;rw[<-h];exact heap_setCell_other w _ v x hn
theorem VP.setN{v:Nat}{m y1 y2 y3:Int}{x4 x5:ByteArray}{w:World}(h:VP v m y1 y2 y3 x4 x5 w)(z:Int):VP v z y1 y2 y3 x4 x5 (w.setCell ⟨v,0,none⟩ (.int .i64 z)):=by
 unfold VP at h ⊢;simp[World.setCell,Array.getElem?_modify,h]
theorem VP.set0{v:Nat}{m y1 y2 y3:Int}{x4 x5:ByteArray}{w:World}(h:VP v m y1 y2 y3 x4 x5 w)(z:Int):VP v m z y2 y3 x4 x5 (w.setCell ⟨v,1,none⟩ (.int .i64 z)):=by
 unfold VP at h ⊢;simp[World.setCell,Array.getElem?_modify,h]
theorem VP.set1{v:Nat}{m y1 y2 y3:Int}{x4 x5:ByteArray}{w:World}(h:VP v m y1 y2 y3 x4 x5 w)(z:Int):VP v m y1 z y3 x4 x5 (w.setCell ⟨v,2,none⟩ (.int .i64 z)):=by
 unfold VP at h ⊢;simp[World.setCell,Array.getElem?_modify,h]
theorem VP.set2{v:Nat}{m y1 y2 y3:Int}{x4 x5:ByteArray}{w:World}(h:VP v m y1 y2 y3 x4 x5 w)(z:Int):VP v m y1 y2 z x4 x5 (w.setCell ⟨v,3,none⟩ (.int .i64 z)):=by
 unfold VP at h ⊢;simp[World.setCell,Array.getElem?_modify,h]
theorem VP.set3{v:Nat}{m y1 y2 y3:Int}{x4 x5:ByteArray}{w:World}(h:VP v m y1 y2 y3 x4 x5 w)(z:ByteArray):VP v m y1 y2 y3 z x5 (w.setCell ⟨v,4,none⟩ (.string z)):=by
 unfold VP at h ⊢;simp[World.setCell,Array.getElem?_modify,h]
theorem VP.set4{v:Nat}{m y1 y2 y3:Int}{x4 x5:ByteArray}{w:World}(h:VP v m y1 y2 y3 x4 x5 w)(z:ByteArray):VP v m y1 y2 y3 x4 z (w.setCell ⟨v,5,none⟩ (.string z)):=by
 unfold VP at h ⊢;simp[World.setCell,Array.getElem?_modify,h]
def V6(b v:Nat)(s:ByteArray)(i:Nat)(m y1 y2 y3:Int)(w w':World):Prop :=
 ∃(j:Nat) (E:Int) (c:Nat) (P B:ByteArray),VS b s j E c w'/\VP v m y1 y2 y3 P B w'/\G2 b v w w'/\E=(aN s.data.toList i).1/\(E=0->P=⟨(aN s.data.toList i).2.2.1.toArray⟩/\B=⟨(aN s.data.toList i).2.2.2.toArray⟩/\j=(aN s.data.toList i).2.1/\j<=s.size)/\(E≠0->c=(aN s.data.toList i).2.1)
theorem afy(b v:Nat)(s:ByteArray)(i:Nat)(E:Int)(hE:E≠0)(a:Nat)(w:World)(h:VS b s i E a w) :
  Calls prog 47 #[.pointer (some ⟨b,0,none⟩),.pointer (some ⟨v,1,none⟩)] w fun e w'=>e=.returned (.tuple #[])/\∃n,w'=w.drewN n:=by
 have h0:=h.c0;have h1:=h.c1;have h2:=h.c2;have HR:=ae h;have hn:(E == 0)=false:=by simpa using hE
 clear h hE;go_enter func47,ntmps47;go_wp2;go_quiet (fail);go_wp2;obtain⟨W,hW⟩:=zN (w.drewN nq);have HW:=ae hW.symm;have e0:W.cell? ⟨b,0,none⟩=some (.string s):=by rw[<-hW];exact h0
 have e1:W.cell? ⟨b,1,none⟩=some (.int .i64 (i:Int)):=by rw[<-hW];exact h1
 have e2:W.cell? ⟨b,2,none⟩=some (.int .i64 E):=by rw[<-hW];exact h2
 rw[hW];clear hW h0 h1 h2;go_quiet (fail);go_wp2
 go_end0
 exact⟨rfl,_,by rw[HW.o,World.drewN_drewN]⟩
theorem afz(b v:Nat)(s:ByteArray)(i:Nat)(a:Nat)(m y1 y2 y3:Int)(w:World)(hi:i<=s.size)(h:VS b s i 0 a w)(hv:VP v m y1 y2 y3 ⟨#[]⟩ ⟨#[]⟩ w)(hbv:b≠v)(hs:s.size<2 ^ 62) :
  Calls prog 47 #[.pointer (some ⟨b,0,none⟩),.pointer (some ⟨v,1,none⟩)] w fun e w'=>e=.returned (.tuple #[])/\V6 b v s i m y1 y2 y3 w w':=by
 have bM:Hd (s.data.toList.length=s.size):=by show s.data.toList.length=s.size;simp
 have PP:=ae (fun st i a w (hi:i<=s.size) (h:VS b s i 0 a w)=>Ux st b s i a w hi h hs);have HI:=ae h;have Fa:=ae hv;have fV:=ae hbv;have mV:=ae hi;have HS:=ae hs;have GET:=ae (iR s);have g0:=h.c0;have g1:=h.c1;have g2:=h.c2;clear h hv hbv hi hs;go_enter func47,ntmps47
 by_cases hlt1:i<s.size
 ·have hl2:((i:Nat):Int)<(s.size:Int):=by omega
  cases hc1:((s[i].toNat:Int) == 45) with
  | true =>
   have tX:Hd (s.data.toList[i]?=some 45):=by
    show s.data.toList[i]?=some 45;rw[GET.o _ hlt1,show s[i]=45 from UInt8.toNat_inj.1 (by have:=eq_of_beq hc1;have e:(45:UInt8).toNat=45:=rfl;omega)]
   have Fb:=ae hlt1;go_wp2;go_quiet (fail);obtain⟨U1,hU⟩:=zN ((w).drewN nq);have dI:Hd (VS b s (i) 0 a U1):=by show VS _ _ _ _ _ U1;rw[<-hU];exact HI.o.drew _
   have su:Hd (VP v m y1 y2 y3 ⟨#[]⟩ ⟨#[]⟩ U1):=by show VP _ _ _ _ _ _ _ U1;rw[<-hU];exact Fa.o
   have sD:Hd (G2 b v w U1):=by show G2 b v w U1;rw[<-hU];exact(G2.refl b v w).drew _
   have k0:=dI.o.c0;have k1:=dI.o.c1;have k2:=dI.o.c2;have kf:=dI.o.f1
   try rw[hU]
   clear hU g0 g1 g2;clear hc1;have y9:=rO (st:=true) tX.o;have hw:IntKind.i64.wrap ((i:Int)+1)=((i+1:Nat):Int):=by rw[IntKind.wrap_i64];have:=HS.o;have:=Fb.o;omega
   have vZ:=ae y9;clear y9;go_wp2_with (first|(go_at_call 77;refine(PP.o true (i+1) _ _ Fb.o (dI.o.set1 (i+1))).mono ?_));rintro e u1 ⟨V1,j1,E1,c1,rfl,hvs,hg,hE,hok,herr⟩;have lu:=ae hvs;have xY:=ae ((su.o.other (Ne.symm fV.o) _ _).grow hg (Ne.symm fV.o));have Iu:=ae ((sD.o.set1 _ _).step hg);have gG:Hd (E1=(aQ true s.data.toList (i+1)).1/\(E1=0->V1=⟨(aO s.data.toList (i+1) (j1-(i+1))).toArray⟩/\j1=(aQ true s.data.toList (i+1)).2/\j1<=s.size)/\(E1≠0->c1=(aQ true s.data.toList (i+1)).2)):=⟨hE,hok,herr⟩;have kv:=xY.o.f;obtain⟨qm,q0,q1,q2,q3,q4⟩:=xY.o.cells;clear hvs hg hE hok herr k0 k1 k2 kf hw;obtain⟨W1,hW⟩:=zN (u1.setCell ⟨v,4,none⟩ (.string V1));have HW1:Hd (VS b s j1 E1 c1 W1):=by show VS _ _ _ _ _ W1;rw[<-hW];exact lu.o.other fV.o _ _
   have uz:Hd (VP v m y1 y2 y3 V1 ⟨#[]⟩ W1):=by show VP _ _ _ _ _ _ _ W1;rw[<-hW];exact xY.o.set3 _
   have IY:Hd (G2 b v w W1):=by show G2 b v w W1;rw[<-hW];exact Iu.o.set _ _
   go_wp2
   try rw[hW]
   clear hW kv q0 q1 q2 q3 q4;have g0:=HW1.o.c0;have g1:=HW1.o.c1;have g2:=HW1.o.c2
   cases hz:(E1 == 0) with
   | false =>
    have HZ:Hd (¬E1=0):=by show ¬E1=0;simpa using hz
    go_quiet (fail);go_wp2
    go_end0
    refine⟨rfl,j1,E1,c1,V1,⟨#[]⟩,HW1.o.drew _,uz.o,IY.o.drew _,?_,fun h=>absurd h HZ.o,fun _=>?_⟩
    ·have h9:¬(aQ true s.data.toList (i+1)).1=0:=fun e=>HZ.o (gG.o.1.trans e)
     unfold aN;rw[vZ.o];simp only[if_neg h9];exact gG.o.1
    ·have h9:¬(aQ true s.data.toList (i+1)).1=0:=fun e=>HZ.o (gG.o.1.trans e)
     unfold aN;rw[vZ.o];simp only[if_neg h9];exact gG.o.2.2 HZ.o
   | true =>
    have h0:E1=0:=by simpa using hz
    subst h0;clear hz;have HK:=ae (gG.o.2.1 rfl);have uq:=ae HK.o.2.2;have dB:Hd (aX 45 true s.data.toList (i)=(0,j1,aO s.data.toList (i+1) (j1-(i+1)))):=by
     show aX 45 true s.data.toList i=_;have h9:=gG.o.1.symm;rw[vZ.o,h9,HK.o.2.1];unfold gU;rw[if_pos h9]
    have pq:=ae HK.o.1;clear gG
    by_cases hlt3:j1<s.size
    ·have hl2:((j1:Nat):Int)<(s.size:Int):=by omega
     cases hc3:((s[j1].toNat:Int) == 43) with
     | true =>
      have wG:Hd (s.data.toList[j1]?=some 43):=by
       show s.data.toList[j1]?=some 43;rw[GET.o _ hlt3,show s[j1]=43 from UInt8.toNat_inj.1 (by have:=eq_of_beq hc3;have e:(43:UInt8).toNat=43:=rfl;omega)]
      have Fe:=ae hlt3
      try go_wp2
      go_quiet (fail);obtain⟨U3,hU⟩:=zN ((W1).drewN nq);have fH:Hd (VS b s (j1) 0 c1 U3):=by show VS _ _ _ _ _ U3;rw[<-hU];exact HW1.o.drew _
      have xZ:Hd (VP v m y1 y2 y3 V1 ⟨#[]⟩ U3):=by show VP _ _ _ _ _ _ _ U3;rw[<-hU];exact uz.o
      have x8:Hd (G2 b v w U3):=by show G2 b v w U3;rw[<-hU];exact IY.o.drew _
      have k0:=fH.o.c0;have k1:=fH.o.c1;have k2:=fH.o.c2;have kf:=fH.o.f1
      try rw[hU]
      clear hU g0 g1 g2;clear hc3;have hO2:=rO (st:=false) wG.o;have cZ:=ae hO2;clear hO2;have hw:IntKind.i64.wrap (((j1:Nat):Int)+1)=((j1+1:Nat):Int):=by rw[IntKind.wrap_i64];have:=HS.o;have:=Fe.o;omega
      go_wp2_with (first|(go_at_call 77;refine(PP.o false (j1+1) _ _ Fe.o (fH.o.set1 (j1+1))).mono ?_));rintro e u3 ⟨V3,j3,E3,c3,rfl,hvs,hg,hE,hok,herr⟩;have HF3:=ae hvs;have zx:=ae ((xZ.o.other (Ne.symm fV.o) _ _).grow hg (Ne.symm fV.o));have MB:=ae ((x8.o.set1 _ _).step hg);have jf:Hd (E3=(aQ false s.data.toList (j1+1)).1/\(E3=0->V3=⟨(aO s.data.toList (j1+1) (j3-(j1+1))).toArray⟩/\j3=(aQ false s.data.toList (j1+1)).2/\j3<=s.size)/\(E3≠0->c3=(aQ false s.data.toList (j1+1)).2)):=⟨hE,hok,herr⟩;have kv:=zx.o.f;obtain⟨qm,q0,q1,q2,q3,q4⟩:=zx.o.cells;clear hvs hg hE hok herr k0 k1 k2 kf hw;go_wp2
      go_end0
      refine⟨rfl,j3,E3,c3,V1,V3,HF3.o.other fV.o _ _,zx.o.set4 _,MB.o.set _ _,?_,?_,?_⟩
      ·rw[jf.o.1];unfold aN;rw[dB.o];simp only[if_true];rw[cZ.o];simp only;split<;>simp_all
      ·intro h0;obtain⟨e1,e2,e3⟩:=jf.o.2.1 h0;have h9:=jf.o.1.symm.trans h0;have hp:gU false s.data.toList (j1+1)=aO s.data.toList (j1+1) ((aQ false s.data.toList (j1+1)).2-(j1+1)):=by unfold gU;rw[if_pos h9]
       unfold aN;rw[dB.o];simp only[if_true];rw[cZ.o];simp only[if_pos h9];exact⟨pq.o,by rw[e1,e2,hp],e2,e3⟩
      ·intro h0;have h9:¬(aQ false s.data.toList (j1+1)).1=0:=fun e=>h0 (jf.o.1.trans e)
       unfold aN;rw[dB.o];simp only[if_true];rw[cZ.o];simp only[if_neg h9];exact jf.o.2.2 h0
     | false =>
      have wG:Hd (¬s.data.toList[j1]?=some 43):=by
       show ¬s.data.toList[j1]?=some 43;rw[GET.o _ hlt3];intro e;rw[Option.some.inj e]at hc3;exact absurd hc3 (by decide)
      try go_wp2
      go_quiet (fail);obtain⟨U3,hU⟩:=zN ((W1).drewN nq);have fH:Hd (VS b s (j1) 0 c1 U3):=by show VS _ _ _ _ _ U3;rw[<-hU];exact HW1.o.drew _
      have xZ:Hd (VP v m y1 y2 y3 V1 ⟨#[]⟩ U3):=by show VP _ _ _ _ _ _ _ U3;rw[<-hU];exact uz.o
      have x8:Hd (G2 b v w U3):=by show G2 b v w U3;rw[<-hU];exact IY.o.drew _
      have k0:=fH.o.c0;have k1:=fH.o.c1;have k2:=fH.o.c2;have kf:=fH.o.f1
      try rw[hU]
      clear hU g0 g1 g2;clear hc3;have cZ:Hd (aX 43 false s.data.toList (j1)=(0,j1,[])):=oU wG.o;go_wp2
      go_end0
      refine⟨rfl,j1,0,_,V1,⟨#[]⟩,fH.o,xZ.o,x8.o,?_,?_,fun h=>absurd rfl h⟩
      ·unfold aN;rw[dB.o];simp only[if_true];rw[cZ.o];simp only[if_true]
      ·intro _;unfold aN;rw[dB.o];simp only[if_true];rw[cZ.o];simp only[if_true];exact⟨pq.o,by first|trivial|rfl,by first|trivial|rfl,uq.o⟩
    ·have hl2:decide (((j1:Nat):Int)<(s.size:Int))=false:=by simp;omega
     have wG:Hd (¬s.data.toList[j1]?=some 43):=by
      show ¬s.data.toList[j1]?=some 43;intro e;have:=(List.getElem?_eq_some_iff.1 e).1;rw[bM.o]at this;exact hlt3 this
     try go_wp2
     go_quiet (fail);obtain⟨U3,hU⟩:=zN ((W1).drewN nq);have fH:Hd (VS b s (j1) 0 c1 U3):=by show VS _ _ _ _ _ U3;rw[<-hU];exact HW1.o.drew _
     have xZ:Hd (VP v m y1 y2 y3 V1 ⟨#[]⟩ U3):=by show VP _ _ _ _ _ _ _ U3;rw[<-hU];exact uz.o
     have x8:Hd (G2 b v w U3):=by show G2 b v w U3;rw[<-hU];exact IY.o.drew _
     have k0:=fH.o.c0;have k1:=fH.o.c1;have k2:=fH.o.c2;have kf:=fH.o.f1
     try rw[hU]
     clear hU g0 g1 g2;clear hl2 hlt3;have cZ:Hd (aX 43 false s.data.toList (j1)=(0,j1,[])):=oU wG.o;go_wp2
     go_end0
     refine⟨rfl,j1,0,_,V1,⟨#[]⟩,fH.o,xZ.o,x8.o,?_,?_,fun h=>absurd rfl h⟩
     ·unfold aN;rw[dB.o];simp only[if_true];rw[cZ.o];simp only[if_true]
     ·intro _;unfold aN;rw[dB.o];simp only[if_true];rw[cZ.o];simp only[if_true];exact⟨pq.o,by first|trivial|rfl,by first|trivial|rfl,uq.o⟩
  | false =>
   have tX:Hd (¬s.data.toList[i]?=some 45):=by
    show ¬s.data.toList[i]?=some 45;rw[GET.o _ hlt1];intro e;rw[Option.some.inj e]at hc1;exact absurd hc1 (by decide)
   go_wp2;go_quiet (fail);obtain⟨U1,hU⟩:=zN ((w).drewN nq);have dI:Hd (VS b s (i) 0 a U1):=by show VS _ _ _ _ _ U1;rw[<-hU];exact HI.o.drew _
   have su:Hd (VP v m y1 y2 y3 ⟨#[]⟩ ⟨#[]⟩ U1):=by show VP _ _ _ _ _ _ _ U1;rw[<-hU];exact Fa.o
   have sD:Hd (G2 b v w U1):=by show G2 b v w U1;rw[<-hU];exact(G2.refl b v w).drew _
   have k0:=dI.o.c0;have k1:=dI.o.c1;have k2:=dI.o.c2;have kf:=dI.o.f1
   try rw[hU]
   clear hU g0 g1 g2;clear hc1;have dB:Hd (aX 45 true s.data.toList (i)=(0,i,[])):=oU tX.o;have HJ2:=ae mV.o;have g0:=dI.o.c0;have g1:=dI.o.c1;have g2:=dI.o.c2;clear k0 k1 k2 kf
   by_cases hlt2:i<s.size
   ·have hl2:((i:Nat):Int)<(s.size:Int):=by omega
    cases hc2:((s[i].toNat:Int) == 43) with
    | true =>
     have HC2:Hd (s.data.toList[i]?=some 43):=by
      show s.data.toList[i]?=some 43;rw[GET.o _ hlt2,show s[i]=43 from UInt8.toNat_inj.1 (by have:=eq_of_beq hc2;have e:(43:UInt8).toNat=43:=rfl;omega)]
     have Fz:=ae hlt2
     try go_wp2
     go_quiet (fail);obtain⟨U2,hU⟩:=zN ((U1).drewN nq);have dU:Hd (VS b s (i) 0 a U2):=by show VS _ _ _ _ _ U2;rw[<-hU];exact dI.o.drew _
     have wH:Hd (VP v m y1 y2 y3 ⟨#[]⟩ ⟨#[]⟩ U2):=by show VP _ _ _ _ _ _ _ U2;rw[<-hU];exact su.o
     have wI:Hd (G2 b v w U2):=by show G2 b v w U2;rw[<-hU];exact sD.o.drew _
     have k0:=dU.o.c0;have k1:=dU.o.c1;have k2:=dU.o.c2;have kf:=dU.o.f1
     try rw[hU]
     clear hU g0 g1 g2;clear hc2;have hO2:=rO (st:=false) HC2.o;have cZ:=ae hO2;clear hO2;have hw:IntKind.i64.wrap (((i:Nat):Int)+1)=((i+1:Nat):Int):=by rw[IntKind.wrap_i64];have:=HS.o;have:=Fz.o;omega
     go_wp2_with (first|(go_at_call 77;refine(PP.o false (i+1) _ _ Fz.o (dU.o.set1 (i+1))).mono ?_));rintro e u2 ⟨V2,j2,E2,c2,rfl,hvs,hg,hE,hok,herr⟩;have HF2:=ae hvs;have zF:=ae ((wH.o.other (Ne.symm fV.o) _ _).grow hg (Ne.symm fV.o));have NL:=ae ((wI.o.set1 _ _).step hg);have gV:Hd (E2=(aQ false s.data.toList (i+1)).1/\(E2=0->V2=⟨(aO s.data.toList (i+1) (j2-(i+1))).toArray⟩/\j2=(aQ false s.data.toList (i+1)).2/\j2<=s.size)/\(E2≠0->c2=(aQ false s.data.toList (i+1)).2)):=⟨hE,hok,herr⟩;have kv:=zF.o.f;obtain⟨qm,q0,q1,q2,q3,q4⟩:=zF.o.cells;clear hvs hg hE hok herr k0 k1 k2 kf hw;go_wp2
     go_end0
     refine⟨rfl,j2,E2,c2,⟨#[]⟩,V2,HF2.o.other fV.o _ _,zF.o.set4 _,NL.o.set _ _,?_,?_,?_⟩
     ·rw[gV.o.1];unfold aN;rw[dB.o];simp only[if_true];rw[cZ.o];simp only;split<;>simp_all
     ·intro h0;obtain⟨e1,e2,e3⟩:=gV.o.2.1 h0;have h9:=gV.o.1.symm.trans h0;have hp:gU false s.data.toList (i+1)=aO s.data.toList (i+1) ((aQ false s.data.toList (i+1)).2-(i+1)):=by unfold gU;rw[if_pos h9]
      unfold aN;rw[dB.o];simp only[if_true];rw[cZ.o];simp only[if_pos h9];exact⟨by first|trivial|rfl,by rw[e1,e2,hp],e2,e3⟩
     ·intro h0;have h9:¬(aQ false s.data.toList (i+1)).1=0:=fun e=>h0 (gV.o.1.trans e)
      unfold aN;rw[dB.o];simp only[if_true];rw[cZ.o];simp only[if_neg h9];exact gV.o.2.2 h0
    | false =>
     have HC2:Hd (¬s.data.toList[i]?=some 43):=by
      show ¬s.data.toList[i]?=some 43;rw[GET.o _ hlt2];intro e;rw[Option.some.inj e]at hc2;exact absurd hc2 (by decide)
     try go_wp2
     go_quiet (fail);obtain⟨U2,hU⟩:=zN ((U1).drewN nq);have dU:Hd (VS b s (i) 0 a U2):=by show VS _ _ _ _ _ U2;rw[<-hU];exact dI.o.drew _
     have wH:Hd (VP v m y1 y2 y3 ⟨#[]⟩ ⟨#[]⟩ U2):=by show VP _ _ _ _ _ _ _ U2;rw[<-hU];exact su.o
     have wI:Hd (G2 b v w U2):=by show G2 b v w U2;rw[<-hU];exact sD.o.drew _
     have k0:=dU.o.c0;have k1:=dU.o.c1;have k2:=dU.o.c2;have kf:=dU.o.f1
     try rw[hU]
     clear hU g0 g1 g2;clear hc2;have cZ:Hd (aX 43 false s.data.toList (i)=(0,i,[])):=oU HC2.o;go_wp2
     go_end0
     refine⟨rfl,i,0,_,⟨#[]⟩,⟨#[]⟩,dU.o,wH.o,wI.o,?_,?_,fun h=>absurd rfl h⟩
     ·unfold aN;rw[dB.o];simp only[if_true];rw[cZ.o];simp only[if_true]
     ·intro _;unfold aN;rw[dB.o];simp only[if_true];rw[cZ.o];simp only[if_true];exact⟨by first|trivial|rfl,by first|trivial|rfl,by first|trivial|rfl,HJ2.o⟩
   ·exact absurd hlt1 hlt2
 ·have hl2:decide (((i:Nat):Int)<(s.size:Int))=false:=by simp;omega
  have tX:Hd (¬s.data.toList[i]?=some 45):=by
   show ¬s.data.toList[i]?=some 45;intro e;have:=(List.getElem?_eq_some_iff.1 e).1;rw[bM.o]at this;exact hlt1 this
  go_wp2;go_quiet (fail);obtain⟨U1,hU⟩:=zN ((w).drewN nq);have dI:Hd (VS b s (i) 0 a U1):=by show VS _ _ _ _ _ U1;rw[<-hU];exact HI.o.drew _
  have su:Hd (VP v m y1 y2 y3 ⟨#[]⟩ ⟨#[]⟩ U1):=by show VP _ _ _ _ _ _ _ U1;rw[<-hU];exact Fa.o
  have sD:Hd (G2 b v w U1):=by show G2 b v w U1;rw[<-hU];exact(G2.refl b v w).drew _
  have k0:=dI.o.c0;have k1:=dI.o.c1;have k2:=dI.o.c2;have kf:=dI.o.f1
  try rw[hU]
  clear hU g0 g1 g2;clear hl2 hlt1;have dB:Hd (aX 45 true s.data.toList (i)=(0,i,[])):=oU tX.o;have HJ2:=ae mV.o;have g0:=dI.o.c0;have g1:=dI.o.c1;have g2:=dI.o.c2;clear k0 k1 k2 kf
  by_cases hlt2:i<s.size
  ·have hl2:((i:Nat):Int)<(s.size:Int):=by omega
   cases hc2:((s[i].toNat:Int) == 43) with
   | true =>
    have HC2:Hd (s.data.toList[i]?=some 43):=by
     show s.data.toList[i]?=some 43;rw[GET.o _ hlt2,show s[i]=43 from UInt8.toNat_inj.1 (by have:=eq_of_beq hc2;have e:(43:UInt8).toNat=43:=rfl;omega)]
    have Fz:=ae hlt2
    try go_wp2
    go_quiet (fail);obtain⟨U2,hU⟩:=zN ((U1).drewN nq);have dU:Hd (VS b s (i) 0 a U2):=by show VS _ _ _ _ _ U2;rw[<-hU];exact dI.o.drew _
    have wH:Hd (VP v m y1 y2 y3 ⟨#[]⟩ ⟨#[]⟩ U2):=by show VP _ _ _ _ _ _ _ U2;rw[<-hU];exact su.o
    have wI:Hd (G2 b v w U2):=by show G2 b v w U2;rw[<-hU];exact sD.o.drew _
    have k0:=dU.o.c0;have k1:=dU.o.c1;have k2:=dU.o.c2;have kf:=dU.o.f1
    try rw[hU]
    clear hU g0 g1 g2;clear hc2;have hO2:=rO (st:=false) HC2.o;have cZ:=ae hO2;clear hO2;have hw:IntKind.i64.wrap (((i:Nat):Int)+1)=((i+1:Nat):Int):=by rw[IntKind.wrap_i64];have:=HS.o;have:=Fz.o;omega
    go_wp2_with (first|(go_at_call 77;refine(PP.o false (i+1) _ _ Fz.o (dU.o.set1 (i+1))).mono ?_));rintro e u2 ⟨V2,j2,E2,c2,rfl,hvs,hg,hE,hok,herr⟩;have HF2:=ae hvs;have zF:=ae ((wH.o.other (Ne.symm fV.o) _ _).grow hg (Ne.symm fV.o));have NL:=ae ((wI.o.set1 _ _).step hg);have gV:Hd (E2=(aQ false s.data.toList (i+1)).1/\(E2=0->V2=⟨(aO s.data.toList (i+1) (j2-(i+1))).toArray⟩/\j2=(aQ false s.data.toList (i+1)).2/\j2<=s.size)/\(E2≠0->c2=(aQ false s.data.toList (i+1)).2)):=⟨hE,hok,herr⟩;have kv:=zF.o.f;obtain⟨qm,q0,q1,q2,q3,q4⟩:=zF.o.cells;clear hvs hg hE hok herr k0 k1 k2 kf hw;go_wp2
    go_end0
    refine⟨rfl,j2,E2,c2,⟨#[]⟩,V2,HF2.o.other fV.o _ _,zF.o.set4 _,NL.o.set _ _,?_,?_,?_⟩
    ·rw[gV.o.1];unfold aN;rw[dB.o];simp only[if_true];rw[cZ.o];simp only;split<;>simp_all
    ·intro h0;obtain⟨e1,e2,e3⟩:=gV.o.2.1 h0;have h9:=gV.o.1.symm.trans h0;have hp:gU false s.data.toList (i+1)=aO s.data.toList (i+1) ((aQ false s.data.toList (i+1)).2-(i+1)):=by unfold gU;rw[if_pos h9]
     unfold aN;rw[dB.o];simp only[if_true];rw[cZ.o];simp only[if_pos h9];exact⟨by first|trivial|rfl,by rw[e1,e2,hp],e2,e3⟩
    ·intro h0;have h9:¬(aQ false s.data.toList (i+1)).1=0:=fun e=>h0 (gV.o.1.trans e)
     unfold aN;rw[dB.o];simp only[if_true];rw[cZ.o];simp only[if_neg h9];exact gV.o.2.2 h0
   | false =>
    have HC2:Hd (¬s.data.toList[i]?=some 43):=by
     show ¬s.data.toList[i]?=some 43;rw[GET.o _ hlt2];intro e;rw[Option.some.inj e]at hc2;exact absurd hc2 (by decide)
    try go_wp2
    go_quiet (fail);obtain⟨U2,hU⟩:=zN ((U1).drewN nq);have dU:Hd (VS b s (i) 0 a U2):=by show VS _ _ _ _ _ U2;rw[<-hU];exact dI.o.drew _
    have wH:Hd (VP v m y1 y2 y3 ⟨#[]⟩ ⟨#[]⟩ U2):=by show VP _ _ _ _ _ _ _ U2;rw[<-hU];exact su.o
    have wI:Hd (G2 b v w U2):=by show G2 b v w U2;rw[<-hU];exact sD.o.drew _
    have k0:=dU.o.c0;have k1:=dU.o.c1;have k2:=dU.o.c2;have kf:=dU.o.f1
    try rw[hU]
    clear hU g0 g1 g2;clear hc2;have cZ:Hd (aX 43 false s.data.toList (i)=(0,i,[])):=oU HC2.o;go_wp2
    go_end0
    refine⟨rfl,i,0,_,⟨#[]⟩,⟨#[]⟩,dU.o,wH.o,wI.o,?_,?_,fun h=>absurd rfl h⟩
    ·unfold aN;rw[dB.o];simp only[if_true];rw[cZ.o];simp only[if_true]
    ·intro _;unfold aN;rw[dB.o];simp only[if_true];rw[cZ.o];simp only[if_true];exact⟨by first|trivial|rfl,by first|trivial|rfl,by first|trivial|rfl,HJ2.o⟩
  ·have hl2:decide (((i:Nat):Int)<(s.size:Int))=false:=by simp;omega
   have HC2:Hd (¬s.data.toList[i]?=some 43):=by
    show ¬s.data.toList[i]?=some 43;intro e;have:=(List.getElem?_eq_some_iff.1 e).1;rw[bM.o]at this;exact hlt2 this
   try go_wp2
   go_quiet (fail);obtain⟨U2,hU⟩:=zN ((U1).drewN nq);have dU:Hd (VS b s (i) 0 a U2):=by show VS _ _ _ _ _ U2;rw[<-hU];exact dI.o.drew _
   have wH:Hd (VP v m y1 y2 y3 ⟨#[]⟩ ⟨#[]⟩ U2):=by show VP _ _ _ _ _ _ _ U2;rw[<-hU];exact su.o
   have wI:Hd (G2 b v w U2):=by show G2 b v w U2;rw[<-hU];exact sD.o.drew _
   have k0:=dU.o.c0;have k1:=dU.o.c1;have k2:=dU.o.c2;have kf:=dU.o.f1
   try rw[hU]
   clear hU g0 g1 g2;clear hl2 hlt2;have cZ:Hd (aX 43 false s.data.toList (i)=(0,i,[])):=oU HC2.o;go_wp2
   go_end0
   refine⟨rfl,i,0,_,⟨#[]⟩,⟨#[]⟩,dU.o,wH.o,wI.o,?_,?_,fun h=>absurd rfl h⟩
   ·unfold aN;rw[dB.o];simp only[if_true];rw[cZ.o];simp only[if_true]
   ·intro _;unfold aN;rw[dB.o];simp only[if_true];rw[cZ.o];simp only[if_true];exact⟨by first|trivial|rfl,by first|trivial|rfl,by first|trivial|rfl,HJ2.o⟩
end Go.Proofs.YtiinliaoojfjaaaGreatDoor
