import Derived.Test.YtapodndfpecglaaGreatDoorK24
import Derived.Test.YtapodndfpecglaaGreatDoorK23
set_option linter.all false
set_option maxRecDepth 100000
set_option maxHeartbeats 0
open Go.Proofs.Tryz
namespace Go.Proofs.YtapodndfpecglaaGreatDoor
open Go.RowKit
def Q8(b:Nat)(s:ByteArray)(E:Int)(a:Nat)(w:World)(e:Ending)(w':World):Prop:=∃(v:Int) (j:Nat),e=.returned (.int .i64 v)/\VS b s j E a w'/\w.grownBy w' (some b)/\j<=s.size
theorem ab7(b:Nat)(s:ByteArray)(i:Nat)(E:Int)(hE:E≠0)(a:Nat)(w:World)(hi:i<=s.size)(h:VS b s i E a w)(hs:s.size<2 ^ 62) :
  Calls prog 69 #[.pointer (some ⟨b,0,none⟩)] w (Q8 b s E a w):=by
 have oD:=ae hE;clear hE;have h1:=h.c1;have HR:=ae h;have hsl:s.data.toList.length=s.size:=by simp
 have hle:i+runN aN s.data.toList i<=s.size:=by have:=kU aN s.data.toList i (by rw[hsl];exact hi);rw[hsl]at this;exact this
 have hln:=mP s.data.toList i (runN aN s.data.toList i) (by rw[hsl];exact hle);have hall:=vV aN s.data.toList i;obtain⟨k,hk⟩:=zN (runN aN s.data.toList i);have HS:Hd (∀hj:i+k<s.size,aN s[i+k]=false):=by
  show ∀hj:i+k<s.size,aN s[i+k]=false;intro hj;have:=rE aN s.data.toList i (by rw[hk];simpa using hj);simp only[hk]at this;exact this
 rw[hk]at hle hln hall;obtain⟨T,hT⟩:=zN (aK s.data.toList i k);have wK:Hd (∀m (hm:m<k) (h2:i+m<s.size) (h3:m<T.length),s[i+m]=T[m]):=by
  show ∀m (hm:m<k) (h2:i+m<s.size) (h3:m<T.length),s[i+m]=T[m];intro m hm h2 h3;have e1:T[m]?=s.data.toList[i+m]?:=by rw[<-hT];unfold aK;rw[List.getElem?_take_of_lt hm,List.getElem?_drop]
  rw[iD s (i+m) h2,List.getElem?_eq_getElem h3]at e1;exact(Option.some.inj e1).symm
 rw[hT]at hln hall;have HP:Hd (∀(v:Int) (j:Nat) (w':World),VS b s j E a w'->w.grownBy w' (some b)->j<=s.size->Q8 b s E a w (.returned (.int .i64 v)) w'):=fun v j w' h1 h2 h3=>⟨v,j,rfl,h1,h2,h3⟩
 have HD:Hd (∀m j (hm:m<k) (hj:j=i+m) (h2:j<s.size),aN s[j]=true):=by
  show ∀m j (hm:m<k) (hj:j=i+m) (h2:j<s.size),aN s[j]=true;intro m j hm hj h2;subst hj;rw[wK.o m hm h2 (by omega)];exact List.all_eq_true.1 hall _ (List.getElem_mem _)
 have A7:Hd (∀m j (hm:m<k) (hj:j=i+m) (h2:j<s.size),fD (T.take (m+1))=oU (fD (T.take m)) s[j]):=by
  show ∀m j (hm:m<k) (hj:j=i+m) (h2:j<s.size),fD (T.take (m+1))=oU (fD (T.take m)) s[j];intro m j hm hj h2;subst hj;rw[wK.o m hm h2 (by omega)];exact Hr T m (by omega)
 have HC:Hd (T.length=k/\∀m,m<=k->(0<=fD (T.take m)/\fD (T.take m)<=9999999999)/\(aY (T.take m)<=999999999->fD (T.take m)=aY (T.take m))/\(999999999<aY (T.take m)->999999999<fD (T.take m))):=⟨hln,fun m hm=>Ol T hall m (by omega)⟩;have HL:=ae hle;clear hk hT hln hall h hsl hle hi;go_enter func69,ntmps69;go_wp2;go_loopw [4] (fun vn wr=>∃m j:Nat,j=i+m/\m<=k/\vn=.int .i64 (fD (T.take m))/\VS b s j E a wr/\w.grownBy wr (some b)) (fun _ wr=>s.size-placeOf b wr)
 case atStart=>exact⟨0,i,rfl,Nat.zero_le _,rfl,HR.o,ak _ _⟩
 case round =>
  obtain⟨m,j,hj,hmk,rfl,hrs,hgb⟩:=hrel;have d0:=hrs.c0;have d1:=hrs.c1;have df:=hrs.f1;have az:=ae hrs;have bg:=ae hgb;have hil:=HL.o;have hcb:=(HC.o.2 m hmk).1;clear hrs hgb h1 HR
  by_cases hlt:m<k
  ·have hjs:j<s.size:=by omega
   have hD:=HD.o m j hlt hj hjs;have hdg:=rD hD;have bK:=ae (A7.o m j hlt hj hjs);have HK:Hd (m<k/\j=i+m/\j<s.size):=⟨hlt,hj,hjs⟩;obtain⟨v,hv⟩:∃v,v=fD (T.take m):=⟨_,rfl⟩;rw[<-hv]at hcb bK;rw[<-hv];clear hv hlt hil hmk hj;have hlt2:(j:Int)<(s.size:Int):=by omega
   have hw:IntKind.i64.wrap ((j:Int)+1)=((j+1:Nat):Int):=by rw[IntKind.wrap_i64];omega
   by_cases hb:v<=999999999
   ·have r1:IntKind.i64.wrap (10*v)=10*v:=by rw[IntKind.wrap_i64];omega
    have r2:IntKind.i64.wrap (10*v+(s[j].toNat:Int))=10*v+(s[j].toNat:Int):=by rw[IntKind.wrap_i64];omega
    have r3:IntKind.i64.wrap (10*v+(s[j].toNat:Int)-48)=10*v+(s[j].toNat:Int)-48:=by rw[IntKind.wrap_i64];omega
    have HN:Hd (10*v+(s[j].toNat:Int)-48=fD (T.take (m+1))):=by show _=_;rw[bK.o];unfold oU;rw[if_pos hb];omega
    go_wp2;go_quiet (first|(go_at_call 43;exact Calls.quiet_of_same (kV _ _)));go_wp2;have iW:=ae az.o.place;obtain⟨W,hW⟩:=zN (wr.drewN nq);have e0:W.cell? ⟨b,0,none⟩=some (.string s):=by rw[<-hW];exact d0
    have e1:W.cell? ⟨b,1,none⟩=some (.int .i64 (j:Int)):=by rw[<-hW];exact d1
    have ef:W.frozen? ⟨b,1,none⟩=false:=by rw[<-hW];exact df
    have HW:Hd (VS b s j E a W/\w.grownBy W (some b)):=by
     show VS b s j E a W/\w.grownBy W (some b);rw[<-hW];exact⟨az.o.drew _,aF bg.o _⟩
    rw[hW];clear hW d0 d1 df az bg;go_quiet (fail);go_wp2;go_roundw
    case rel=>exact⟨m+1,j+1,by have:=HK.o;omega,by have:=HK.o;omega,by rw[<-HN.o],(HW.o.1.drew _).set1 (j+1),bF (aF HW.o.2 _) _ _⟩
    case measure =>
     have e2:=((HW.o.1.drew nq).set1 (j+1)).place;rw[iW.o];exact Nat.lt_of_le_of_lt (Nat.le_of_eq (congrArg (s.size - ·) e2)) (by omega)
   ·have HN:Hd (v=fD (T.take (m+1))):=by show _=_;rw[bK.o];unfold oU;rw[if_neg hb]
    go_wp2;go_quiet (first|(go_at_call 43;exact Calls.quiet_of_same (kV _ _)));go_wp2;go_roundw
    case rel=>exact⟨m+1,j+1,by have:=HK.o;omega,by have:=HK.o;omega,by rw[<-HN.o],(az.o.drew _).set1 (j+1),bF (aF bg.o _) _ _⟩
    case measure =>
     have e1:=az.o.place;have e2:=((az.o.drew nq).set1 (j+1)).place;rw[e1];exact Nat.lt_of_le_of_lt (Nat.le_of_eq (congrArg (s.size - ·) e2)) (by omega)
  ·have uN:m=k:=by omega
   subst m;obtain⟨v,hv⟩:∃v,v=fD (T.take k):=⟨_,rfl⟩;have A8:=List.take_of_length_le (by rw[HC.o.1];exact Nat.le_refl _);have dZ:Hd ((aY T<=999999999->v=aY T)/\(999999999<aY T->999999999<v)):=by
    have:=(HC.o.2 k hmk).2;rw[A8]at this hv;show(aY T<=999999999->v=aY T)/\(999999999<aY T->999999999<v);rw[hv];exact this
   have hv0:k=0->v=0:=fun h=>by rw[hv,h];rfl
   rw[<-hv]at hcb;rw[<-hv];have gZ:Hd (j=i+k/\i+k<=s.size):=⟨hj,hil⟩;clear hv A8 HD A7 HC wK hlt hmk hil
   by_cases hjs:j<s.size
   ·have hD:aN s[j]=false:=by subst hj;exact HS.o hjs
    have hlt2:(j:Int)<(s.size:Int):=by omega
    clear HS HL hj;go_wp2;go_quiet (first|(go_at_call 43;exact Calls.quiet_of_same (kV _ _)));obtain⟨W,hW⟩:=zN (wr.drewN nq);have e0:W.cell? ⟨b,0,none⟩=some (.string s):=by rw[<-hW];exact d0
    have e1:W.cell? ⟨b,1,none⟩=some (.int .i64 (j:Int)):=by rw[<-hW];exact d1
    have ef:W.frozen? ⟨b,1,none⟩=false:=by rw[<-hW];exact df
    have HW:Hd (VS b s j E a W/\w.grownBy W (some b)):=by
     show VS b s j E a W/\w.grownBy W (some b);rw[<-hW];exact⟨az.o.drew _,aF bg.o _⟩
    rw[hW];clear hW d0 d1 df az bg;have hj:=gZ.o.1;have hil:=gZ.o.2;have q2:IntKind.i64.wrap ((j:Int)-(i:Int))=(k:Int):=by rw[IntKind.wrap_i64];omega
    by_cases hk0:k=0
    ·have q1:((j:Int) == (i:Int))=true:=by simp;omega
     have q5:decide ((999999999:Int)<v)=false:=by simp;have:=hv0 hk0;omega
     have HO:=ae hk0;clear hk0 hv0 hj hil q2;go_wp2_with (go_at_call 72;refine(ni b s j E oD.o a 2 i _ HW.o.1).mono ?_);rintro e w1 ⟨rfl,hr,hg⟩;go_wp2;go_ret;exact HP.o _ j _ hr (ah HW.o.2 hg) (by have:=gZ.o;omega)
    ·have q1:((j:Int) == (i:Int))=false:=by simp;omega
     have his:i<s.size:=by omega
     have hgd:=iD s i his
     by_cases h1k:1<k
     ·have q3:decide ((1:Int)<(k:Int))=true:=by simp;omega
      cases q4:((s[i].toNat:Int) == 48) with
      | true =>
       have HO:Hd (¬k=0/\(1<k/\s.data.toList[i]?=some 48)):=⟨hk0,h1k,by rw[hgd];congr 1;exact UInt8.toNat_inj.1 (by simp at q4;show s[i].toNat=48;omega)⟩;clear hgd hk0 hv0 hj hil
       cases q5:decide ((999999999:Int)<v) with
       | true =>
        go_wp2_with (go_at_call 72;refine(ni b s j E oD.o a 2 i _ HW.o.1).mono ?_);rintro e w1 ⟨rfl,hr,hg⟩;go_wp2_with (go_at_call 72;refine(ni b s j E oD.o a 3 i _ hr).mono ?_);rintro e w2 ⟨rfl,hr2,hg2⟩;go_wp2;go_ret;exact HP.o _ j _ hr2 (ah (ah HW.o.2 hg) hg2) (by have:=gZ.o;omega)
       | false =>
        go_wp2_with (go_at_call 72;refine(ni b s j E oD.o a 2 i _ HW.o.1).mono ?_);rintro e w1 ⟨rfl,hr,hg⟩;go_wp2;go_ret;exact HP.o _ j _ hr (ah HW.o.2 hg) (by have:=gZ.o;omega)
      | false =>
       have HO:Hd (¬k=0/\¬(1<k/\s.data.toList[i]?=some 48)):=⟨hk0,fun h=>by
        have:=h.2;rw[hgd]at this;have e:=Option.some.inj this;rw[e]at q4;simp at q4⟩
       clear hgd hk0 hv0;have HJ:=ae hj;clear hj hil
       cases q5:decide ((999999999:Int)<v) with
       | true =>
        have HB:Hd (aY T > 999999999):=by
         show aY T > 999999999;have h1:=of_decide_eq_true q5;refine Int.not_le.1 (fun h2=>?_);have:=dZ.o.1 h2;omega
        go_wp2_with (go_at_call 72;refine(ni b s j E oD.o a 3 i _ HW.o.1).mono ?_);rintro e w1 ⟨rfl,hr,hg⟩;go_wp2;go_ret;exact HP.o _ j _ hr (ah HW.o.2 hg) (by have:=gZ.o;omega)
       | false =>
        have HB:Hd (¬aY T > 999999999):=by
         show ¬aY T > 999999999;have h1:=of_decide_eq_false q5;exact fun h2=>h1 (dZ.o.2 h2)
        have HE:=ae (dZ.o.1 (Int.not_lt.1 HB.o));go_wp2;go_ret;exact HP.o _ j _ HW.o.1 HW.o.2 (by have:=gZ.o;omega)
     ·have q3:decide ((1:Int)<(k:Int))=false:=by simp;omega
      have HO:Hd (¬k=0/\¬(1<k/\s.data.toList[i]?=some 48)):=⟨hk0,fun h=>h1k h.1⟩;clear hgd hk0 hv0;have HJ:=ae hj;clear hj hil
      cases q5:decide ((999999999:Int)<v) with
      | true =>
       have HB:Hd (aY T > 999999999):=by
        show aY T > 999999999;have h1:=of_decide_eq_true q5;refine Int.not_le.1 (fun h2=>?_);have:=dZ.o.1 h2;omega
       go_wp2_with (go_at_call 72;refine(ni b s j E oD.o a 3 i _ HW.o.1).mono ?_);rintro e w1 ⟨rfl,hr,hg⟩;go_wp2;go_ret;exact HP.o _ j _ hr (ah HW.o.2 hg) (by have:=gZ.o;omega)
      | false =>
       have HB:Hd (¬aY T > 999999999):=by
        show ¬aY T > 999999999;have h1:=of_decide_eq_false q5;exact fun h2=>h1 (dZ.o.2 h2)
       have HE:=ae (dZ.o.1 (Int.not_lt.1 HB.o));go_wp2;go_ret;exact HP.o _ j _ HW.o.1 HW.o.2 (by have:=gZ.o;omega)
   ·have hd2:decide ((j:Int)<(s.size:Int))=false:=by simp;omega
    clear HS HL hj;go_wp2;go_quiet (fail);obtain⟨W,hW⟩:=zN (wr.drewN nq);have e0:W.cell? ⟨b,0,none⟩=some (.string s):=by rw[<-hW];exact d0
    have e1:W.cell? ⟨b,1,none⟩=some (.int .i64 (j:Int)):=by rw[<-hW];exact d1
    have ef:W.frozen? ⟨b,1,none⟩=false:=by rw[<-hW];exact df
    have HW:Hd (VS b s j E a W/\w.grownBy W (some b)):=by
     show VS b s j E a W/\w.grownBy W (some b);rw[<-hW];exact⟨az.o.drew _,aF bg.o _⟩
    rw[hW];clear hW d0 d1 df az bg;have hj:=gZ.o.1;have hil:=gZ.o.2;have q2:IntKind.i64.wrap ((j:Int)-(i:Int))=(k:Int):=by rw[IntKind.wrap_i64];omega
    by_cases hk0:k=0
    ·have q1:((j:Int) == (i:Int))=true:=by simp;omega
     have q5:decide ((999999999:Int)<v)=false:=by simp;have:=hv0 hk0;omega
     have HO:=ae hk0;clear hk0 hv0 hj hil q2;go_wp2_with (go_at_call 72;refine(ni b s j E oD.o a 2 i _ HW.o.1).mono ?_);rintro e w1 ⟨rfl,hr,hg⟩;go_wp2;go_ret;exact HP.o _ j _ hr (ah HW.o.2 hg) (by have:=gZ.o;omega)
    ·have q1:((j:Int) == (i:Int))=false:=by simp;omega
     have his:i<s.size:=by omega
     have hgd:=iD s i his
     by_cases h1k:1<k
     ·have q3:decide ((1:Int)<(k:Int))=true:=by simp;omega
      cases q4:((s[i].toNat:Int) == 48) with
      | true =>
       have HO:Hd (¬k=0/\(1<k/\s.data.toList[i]?=some 48)):=⟨hk0,h1k,by rw[hgd];congr 1;exact UInt8.toNat_inj.1 (by simp at q4;show s[i].toNat=48;omega)⟩;clear hgd hk0 hv0 hj hil
       cases q5:decide ((999999999:Int)<v) with
       | true =>
        go_wp2_with (go_at_call 72;refine(ni b s j E oD.o a 2 i _ HW.o.1).mono ?_);rintro e w1 ⟨rfl,hr,hg⟩;go_wp2_with (go_at_call 72;refine(ni b s j E oD.o a 3 i _ hr).mono ?_);rintro e w2 ⟨rfl,hr2,hg2⟩;go_wp2;go_ret;exact HP.o _ j _ hr2 (ah (ah HW.o.2 hg) hg2) (by have:=gZ.o;omega)
       | false =>
        go_wp2_with (go_at_call 72;refine(ni b s j E oD.o a 2 i _ HW.o.1).mono ?_);rintro e w1 ⟨rfl,hr,hg⟩;go_wp2;go_ret;exact HP.o _ j _ hr (ah HW.o.2 hg) (by have:=gZ.o;omega)
      | false =>
       have HO:Hd (¬k=0/\¬(1<k/\s.data.toList[i]?=some 48)):=⟨hk0,fun h=>by
        have:=h.2;rw[hgd]at this;have e:=Option.some.inj this;rw[e]at q4;simp at q4⟩
       clear hgd hk0 hv0;have HJ:=ae hj;clear hj hil
       cases q5:decide ((999999999:Int)<v) with
       | true =>
        have HB:Hd (aY T > 999999999):=by
         show aY T > 999999999;have h1:=of_decide_eq_true q5;refine Int.not_le.1 (fun h2=>?_);have:=dZ.o.1 h2;omega
        go_wp2_with (go_at_call 72;refine(ni b s j E oD.o a 3 i _ HW.o.1).mono ?_);rintro e w1 ⟨rfl,hr,hg⟩;go_wp2;go_ret;exact HP.o _ j _ hr (ah HW.o.2 hg) (by have:=gZ.o;omega)
       | false =>
        have HB:Hd (¬aY T > 999999999):=by
         show ¬aY T > 999999999;have h1:=of_decide_eq_false q5;exact fun h2=>h1 (dZ.o.2 h2)
        have HE:=ae (dZ.o.1 (Int.not_lt.1 HB.o));go_wp2;go_ret;exact HP.o _ j _ HW.o.1 HW.o.2 (by have:=gZ.o;omega)
     ·have q3:decide ((1:Int)<(k:Int))=false:=by simp;omega
      have HO:Hd (¬k=0/\¬(1<k/\s.data.toList[i]?=some 48)):=⟨hk0,fun h=>h1k h.1⟩;clear hgd hk0 hv0;have HJ:=ae hj;clear hj hil
      cases q5:decide ((999999999:Int)<v) with
      | true =>
       have HB:Hd (aY T > 999999999):=by
        show aY T > 999999999;have h1:=of_decide_eq_true q5;refine Int.not_le.1 (fun h2=>?_);have:=dZ.o.1 h2;omega
       go_wp2_with (go_at_call 72;refine(ni b s j E oD.o a 3 i _ HW.o.1).mono ?_);rintro e w1 ⟨rfl,hr,hg⟩;go_wp2;go_ret;exact HP.o _ j _ hr (ah HW.o.2 hg) (by have:=gZ.o;omega)
      | false =>
       have HB:Hd (¬aY T > 999999999):=by
        show ¬aY T > 999999999;have h1:=of_decide_eq_false q5;exact fun h2=>h1 (dZ.o.2 h2)
       have HE:=ae (dZ.o.1 (Int.not_lt.1 HB.o));go_wp2;go_ret;exact HP.o _ j _ HW.o.1 HW.o.2 (by have:=gZ.o;omega)
theorem EP(g b:Nat)(s:ByteArray)(i:Nat)(c:UInt8)(a:Nat)(w:World)(hi:i<=s.size)(hg:GR g b w)(h:VS b s i 0 a w)(hs:s.size<2 ^ 61) :
  Calls prog 77 #[.pointer (some ⟨g,0,none⟩),.string ⟨#[c]⟩] w fun e w'=>e=.returned (.bool (decide (s.data.toList[i]?=some c)))/\∃n,w'=w.drewN n:=by
 have:=Jo g b s ⟨#[c]⟩ i a w hi hg h hs (by show 1 < _;decide);rw[show(ByteArray.mk #[c]).data.toList=[c] from rfl,dB]at this;exact this
theorem Q9(g b:Nat)(s:ByteArray)(i:Nat)(a:Nat)(w:World)(hi:i<=s.size)(hg:GR g b w)(h:VS b s i 0 a w)(hs:s.size<2 ^ 61) :
  Calls prog 77 #[.pointer (some ⟨g,0,none⟩),.string ⟨#[124,124]⟩] w fun e w'=>e=.returned (.bool (jC s.data.toList i))/\∃n,w'=w.drewN n:=by
 have:=Jo g b s ⟨#[124,124]⟩ i a w hi hg h hs (by show 2 < _;decide);rw[show(ByteArray.mk #[124,124]).data.toList=[124,124] from rfl,fH]at this;exact this
theorem ab8(l:List UInt8)(i:Nat)(hi:i<=l.length):(∀j,i<=j->j<aj l i->l[j]?=some 32)/\¬l[aj l i]?=some 32:=by
 constructor
 ·intro j h1 h2;unfold aj at h2;obtain⟨g1,g2⟩:=yg isSp l i (j-i) (by omega);have e:i+(j-i)=j:=by omega
  simp only[e]at g1 g2;rw[List.getElem?_eq_getElem g1];unfold isSp at g2;simpa using g2
 ·intro h;have hlt:=(List.getElem?_eq_some_iff.1 h).1;have:=rE isSp l i hlt;have e:=(List.getElem?_eq_some_iff.1 h).2;have e3:isSp 32=false:=by rw[<-e];exact this
  exact absurd e3 (by decide)
theorem Rf(g b:Nat)(s:ByteArray)(i:Nat)(a:Nat)(w:World)(hi:i<=s.size)(hgb:g≠b)(hg:GR g b w)(h:VS b s i 0 a w)(hs:s.size<2 ^ 61) :
  Calls prog 75 #[.pointer (some ⟨g,0,none⟩)] w fun e w'=>e=.returned (.bool (decide (i<aj s.data.toList i)))/\VS b s (aj s.data.toList i) 0 a w'/\w.grownBy w' (some b):=by
 obtain⟨h1,h2⟩:=ab8 s.data.toList i (by simpa using hi);have hN:=oC s.data.toList i (by simpa using hi);have hge:=pz s.data.toList i;obtain⟨N,hNN⟩:=zN (aj s.data.toList i);rw[hNN]at h1 h2 hN hge ⊢;have HC:=ae (fun j w (hj:j<=s.size) (hg:GR g b w) (h:VS b s j 0 a w)=>EP g b s j 32 a w hj hg h hs);have HS:Hd ((∀j,i<=j->j<N->s.data.toList[j]?=some 32)/\¬s.data.toList[N]?=some 32/\N<=s.size/\i<=N):=⟨h1,h2,by simpa using hN,hge⟩;have HB:=ae hgb;have HG:=ae hg;have HV:=ae h;have c1:=h.c1;have g0:w.cell? ⟨g,0,none⟩=some (.pointer (some ⟨b,0,none⟩)):=hg;have jf:=ae hs;clear h1 h2 hN hge hNN h hg hgb hs hi;go_enter func75,ntmps75;go_wp2;go_loopw [] (fun wr=>∃j:Nat,i<=j/\j<=N/\VS b s j 0 a wr/\GR g b wr/\w.grownBy wr (some b)) (fun wr=>s.size-placeOf b wr)
 case atStart=>exact⟨i,Nat.le_refl _,HS.o.2.2.2,HV.o,HG.o,ak _ _⟩
 case round =>
  obtain⟨j,hij,hjn,hv,hgr,hgw⟩:=hrel;clear HV HG c1 g0;have HV:=ae hv;have HG:=ae hgr;have HW:=ae hgw;have iW:=ae hv.place;have CI:=ae (fun w (h1:GR g b w) (h2:VS b s j 0 a w)=>HC.o j w (by have:=HS.o;omega) h1 h2);clear hv hgr hgw
  by_cases hlt:j<N
  ·rw[decide_eq_true (HS.o.1 j hij hlt)]at CI;have hw:IntKind.i64.wrap ((j:Int)+1)=((j+1:Nat):Int):=by rw[IntKind.wrap_i64];have:=HS.o;have:=jf.o;omega
   have HJ:Hd (i<=j/\j<N):=⟨hij,hlt⟩;clear hij hjn hlt;go_wp2_with (go_at_call 77;refine(CI.o _ HG.o HV.o).mono ?_);rintro e u1 ⟨rfl,n,hn⟩;replace HV:Hd (VS b s j 0 a u1):=by show VS b s j 0 a u1;rw[hn];exact HV.o.drew n
   replace HG:Hd (GR g b u1):=by show GR g b u1;rw[hn];exact HG.o
   replace HW:Hd (w.grownBy u1 (some b)):=by show w.grownBy u1 (some b);rw[hn];exact aF HW.o n
   clear hn;have c1:=HV.o.c1;have f1:=HV.o.f1;have g0:u1.cell? ⟨g,0,none⟩=some (.pointer (some ⟨b,0,none⟩)):=HG.o;go_wp2;go_roundw
   case rel=>exact⟨j+1,by have:=HJ.o;omega,by have:=HJ.o;omega,HV.o.set1 (j+1),HG.o.other HB.o _ _,bF HW.o _ _⟩
   case measure =>
    have e2:=(HV.o.set1 (j+1)).place;rw[iW.o];exact Nat.lt_of_le_of_lt (Nat.le_of_eq (congrArg (s.size - ·) e2)) (by have:=HJ.o;have:=HS.o;omega)
  ·have hjN:j=N:=by omega
   subst hjN;rw[decide_eq_false HS.o.2.1]at CI;clear hij hjn hlt;go_wp2_with (go_at_call 77;refine(CI.o _ HG.o HV.o).mono ?_);rintro e u1 ⟨rfl,n,hn⟩;replace HV:Hd (VS b s j 0 a u1):=by show VS b s j 0 a u1;rw[hn];exact HV.o.drew n
   replace HG:Hd (GR g b u1):=by show GR g b u1;rw[hn];exact HG.o
   replace HW:Hd (w.grownBy u1 (some b)):=by show w.grownBy u1 (some b);rw[hn];exact aF HW.o n
   clear hn;have c1:=HV.o.c1;have g0:u1.cell? ⟨g,0,none⟩=some (.pointer (some ⟨b,0,none⟩)):=HG.o;go_wp2;go_ret;exact⟨bn (by simp),HV.o,HW.o⟩
theorem ab9(g b:Nat)(s:ByteArray)(i:Nat)(E:Int)(a:Nat)(w:World)(hE:¬E=0)(hg:GR g b w)(h:VS b s i E a w) :
  Calls prog 75 #[.pointer (some ⟨g,0,none⟩)] w fun e w'=>e=.returned (.bool false)/\∃n,w'=w.drewN n:=by
 have HC:Hd (∀w,GR g b w->VS b s i E a w->Calls prog 77 #[.pointer (some ⟨g,0,none⟩),.string ⟨#[32]⟩] w fun e w'=>e=.returned (.bool (false))/\∃n,w'=w.drewN n):=fun w hg h=>BM g b s _ i E a w hE hg h
 have HG:=ae hg;have HV:=ae h;have c1:=h.c1;have g0:w.cell? ⟨g,0,none⟩=some (.pointer (some ⟨b,0,none⟩)):=hg;clear h hg hE;go_enter func75,ntmps75;go_wp2;go_loopw [] (fun wr=>VS b s i E a wr/\GR g b wr/\∃n,wr=w.drewN n) (fun wr=>0)
 case atStart=>exact⟨HV.o,HG.o,0,rfl⟩
 case round =>
  obtain⟨hv,hgr,m,hm⟩:=hrel;clear HV HG c1 g0;have HV:=ae hv;have HG:=ae hgr;have HM:=ae hm;clear hv hgr hm;go_wp2_with (go_at_call 77;refine(HC.o _ HG.o HV.o).mono ?_);rintro e u1 ⟨rfl,n,hn⟩;replace HV:Hd (VS b s i E a u1):=by show VS b s i E a u1;rw[hn];exact HV.o.drew n
  replace HG:Hd (GR g b u1):=by show GR g b u1;rw[hn];exact HG.o
  have HN:Hd (u1=w.drewN (m+n)):=by show u1=_;rw[hn,HM.o,World.drewN_drewN]
  clear hn;have c1:=HV.o.c1;have g0:u1.cell? ⟨g,0,none⟩=some (.pointer (some ⟨b,0,none⟩)):=HG.o;go_wp2;go_ret;exact⟨bn (by simp),_,HN.o⟩
theorem aca(g b:Nat)(s:ByteArray)(i:Nat)(E:Int)(a:Nat)(w:World)(hE:¬E=0)(hg:GR g b w)(h:VS b s i E a w) :
  Calls prog 97 #[.pointer (some ⟨g,0,none⟩)] w fun e w'=>e=.returned (.bool true)/\∃n,w'=w.drewN n:=by
 have c0:=h.c0;have c1:=h.c1;have c2:=h.c2;have g0:w.cell? ⟨g,0,none⟩=some (.pointer (some ⟨b,0,none⟩)):=hg;have hn:(E == 0)=false:=by simpa using hE
 have hn2:(E != 0)=true:=by simpa using hE
 clear h hg hE;go_enter func97,ntmps97;go_wp2;go_quiet (fail);go_wp2;go_ret;exact⟨rfl,_,rfl⟩
theorem acb(g b:Nat)(s:ByteArray)(i:Nat)(a:Nat)(w:World)(hi:i<=s.size)(hg:GR g b w)(h:VS b s i 0 a w)(hs:s.size<2 ^ 61) :
  Calls prog 97 #[.pointer (some ⟨g,0,none⟩)] w fun e w'=>e=.returned (.bool (dD s.data.toList i))/\∃n,w'=w.drewN n:=by
 have c0:=h.c0;have c1:=h.c1;have c2:=h.c2;have g0:w.cell? ⟨g,0,none⟩=some (.pointer (some ⟨b,0,none⟩)):=hg;have HC:=ae (fun w (hg:GR g b w) (h:VS b s i 0 a w)=>Q9 g b s i a w hi hg h hs);have HG:=ae hg;have HV:=ae h;clear h hg hs
 by_cases hl:s.size<=i
 ·have HE:Hd (dD s.data.toList i=true):=by show _=_;unfold dD;rw[decide_eq_true (by simpa using hl)];rfl
  have hd:decide (s.size<=i)=true:=by simp;omega
  rw[HE.o];clear hl hi;go_enter func97,ntmps97;go_wp2;go_quiet (fail);go_wp2;go_ret;exact⟨rfl,_,rfl⟩
 ·have HE:Hd (dD s.data.toList i=jC s.data.toList i):=by show _=_;unfold dD;rw[decide_eq_false (by simpa using hl)];rfl
  have hd:decide (s.size<=i)=false:=by simp;omega
  rw[HE.o];obtain⟨r,hr⟩:=zN (jC s.data.toList i);rw[hr]at HC ⊢;clear hl hi hr HE
  cases r with
  | true =>
   go_enter func97,ntmps97;go_wp2;go_quiet (first|(go_at_call 77;exact Calls.quiet_of (HC.o _ (HG.o.drew _) (HV.o.drew _))));go_wp2;go_ret;exact⟨rfl,_,rfl⟩
  | false =>
   go_enter func97,ntmps97;go_wp2;go_quiet (first|(go_at_call 77;exact Calls.quiet_of (HC.o _ (HG.o.drew _) (HV.o.drew _))));go_wp2;go_ret;exact⟨rfl,_,rfl⟩
theorem acd(g b:Nat)(s:ByteArray)(i:Nat)(E:Int)(a:Nat)(w:World)(hE:¬E=0)(hg:GR g b w)(h:VS b s i E a w) :
  Calls prog 126 #[.pointer (some ⟨g,0,none⟩)] w fun e w'=>e=.returned (.bool false)/\∃n,w'=w.drewN n:=by
 have HC:=ae (fun t w (hg:GR g b w) (h:VS b s i E a w)=>BM g b s t i E a w hE hg h);have HG:=ae hg;have HV:=ae h;clear h hg hE;go_enter func126,ntmps126;go_wp2_with (go_at_call 77;refine(HC.o _ _ HG.o HV.o).mono ?_);rintro e u0 ⟨rfl,n0,hn⟩;replace HV:Hd (VS b s i E a u0):=by show VS b s i E a u0;rw[hn];exact HV.o.drew _
 replace HG:Hd (GR g b u0):=by show GR g b u0;rw[hn];exact HG.o
 have HN:=ae hn;clear hn;go_wp2_with (go_at_call 77;refine(HC.o _ _ HG.o HV.o).mono ?_);rintro e u1 ⟨rfl,n1,hn⟩;replace HV:Hd (VS b s i E a u1):=by show VS b s i E a u1;rw[hn];exact HV.o.drew _
 replace HG:Hd (GR g b u1):=by show GR g b u1;rw[hn];exact HG.o
 replace HN:Hd (u1=w.drewN (n0+n1)):=by show u1=_;rw[hn,HN.o,World.drewN_drewN]
 clear hn;go_wp2_with (go_at_call 77;refine(HC.o _ _ HG.o HV.o).mono ?_);rintro e u2 ⟨rfl,n2,hn⟩;replace HV:Hd (VS b s i E a u2):=by show VS b s i E a u2;rw[hn];exact HV.o.drew _
 replace HG:Hd (GR g b u2):=by show GR g b u2;rw[hn];exact HG.o
 replace HN:Hd (u2=w.drewN (n0+n1+n2)):=by show u2=_;rw[hn,HN.o,World.drewN_drewN]
 clear hn;go_wp2;go_ret;exact⟨rfl,_,HN.o⟩
theorem ace(g b:Nat)(s:ByteArray)(i:Nat)(a:Nat)(w:World)(hi:i<=s.size)(hgb:g≠b)(hg:GR g b w)(h:VS b s i 0 a w)(hs:s.size<2 ^ 61) :
  Calls prog 126 #[.pointer (some ⟨g,0,none⟩)] w fun e w'=>e=.returned (.bool (dQ s.data.toList i))/\VS b s (if dQ s.data.toList i=true then i+1 else i) 0 a w'/\w.grownBy w' (some b):=by
 have CI:=ae (fun(c:UInt8) w (hg:GR g b w) (h:VS b s i 0 a w)=>EP g b s i c a w hi hg h hs);have gK:Hd (dQ s.data.toList i=true->i<s.size):=fun h=>by have:=Ep h;simpa using this
 have jf:=ae hs;have HG:=ae hg;have HV:=ae h;have HW:Hd (w.grownBy w (some b)):=ak _ _;clear h hg hs hi
 by_cases q0:s.data.toList[i]?=some 42
 ·have C0:Hd (∀w,GR g b w->VS b s i 0 a w->Calls prog 77 #[.pointer (some ⟨g,0,none⟩),.string ⟨#[42]⟩] w fun e w'=>e=.returned (.bool (true))/\∃n,w'=w.drewN n):=fun w hg h=>by have:=CI.o 42 w hg h;rw[decide_eq_true q0]at this;exact this
  have HZ:=ae (Pg q0);have hw:IntKind.i64.wrap ((i:Int)+1)=((i+1:Nat):Int):=by rw[IntKind.wrap_i64];have:=gK.o HZ.o;have:=jf.o;omega
  rw[HZ.o];clear q0;go_enter func126,ntmps126;go_wp2_with (go_at_call 77;refine(C0.o _ HG.o HV.o).mono ?_);rintro e u0 ⟨rfl,n,hn⟩;replace HV:Hd (VS b s i 0 a u0):=by show VS b s i 0 a u0;rw[hn];exact HV.o.drew _
  replace HG:Hd (GR g b u0):=by show GR g b u0;rw[hn];exact HG.o
  replace HW:Hd (w.grownBy u0 (some b)):=by show w.grownBy u0 (some b);rw[hn];exact aF HW.o _
  clear hn;have c1:=HV.o.c1;have f1:=HV.o.f1;have g0:u0.cell? ⟨g,0,none⟩=some (.pointer (some ⟨b,0,none⟩)):=HG.o;go_wp2;go_ret;exact⟨rfl,HV.o.set1 (i+1),bF HW.o _ _⟩
 ·by_cases q1:s.data.toList[i]?=some 120
  ·have C0:Hd (∀w,GR g b w->VS b s i 0 a w->Calls prog 77 #[.pointer (some ⟨g,0,none⟩),.string ⟨#[42]⟩] w fun e w'=>e=.returned (.bool (false))/\∃n,w'=w.drewN n):=fun w hg h=>by have:=CI.o 42 w hg h;rw[decide_eq_false q0]at this;exact this
   have C1:Hd (∀w,GR g b w->VS b s i 0 a w->Calls prog 77 #[.pointer (some ⟨g,0,none⟩),.string ⟨#[120]⟩] w fun e w'=>e=.returned (.bool (true))/\∃n,w'=w.drewN n):=fun w hg h=>by have:=CI.o 120 w hg h;rw[decide_eq_true q1]at this;exact this
   have HZ:=ae (Ph q1);have hw:IntKind.i64.wrap ((i:Int)+1)=((i+1:Nat):Int):=by rw[IntKind.wrap_i64];have:=gK.o HZ.o;have:=jf.o;omega
   rw[HZ.o];clear q0 q1;go_enter func126,ntmps126;go_wp2_with (go_at_call 77;refine(C0.o _ HG.o HV.o).mono ?_);rintro e u0 ⟨rfl,n,hn⟩;replace HV:Hd (VS b s i 0 a u0):=by show VS b s i 0 a u0;rw[hn];exact HV.o.drew _
   replace HG:Hd (GR g b u0):=by show GR g b u0;rw[hn];exact HG.o
   replace HW:Hd (w.grownBy u0 (some b)):=by show w.grownBy u0 (some b);rw[hn];exact aF HW.o _
   clear hn;go_wp2_with (go_at_call 77;refine(C1.o _ HG.o HV.o).mono ?_);rintro e u1 ⟨rfl,n,hn⟩;replace HV:Hd (VS b s i 0 a u1):=by show VS b s i 0 a u1;rw[hn];exact HV.o.drew _
   replace HG:Hd (GR g b u1):=by show GR g b u1;rw[hn];exact HG.o
   replace HW:Hd (w.grownBy u1 (some b)):=by show w.grownBy u1 (some b);rw[hn];exact aF HW.o _
   clear hn;have c1:=HV.o.c1;have f1:=HV.o.f1;have g0:u1.cell? ⟨g,0,none⟩=some (.pointer (some ⟨b,0,none⟩)):=HG.o;go_wp2;go_ret;exact⟨rfl,HV.o.set1 (i+1),bF HW.o _ _⟩
  ·by_cases q2:s.data.toList[i]?=some 88
   ·have C0:Hd (∀w,GR g b w->VS b s i 0 a w->Calls prog 77 #[.pointer (some ⟨g,0,none⟩),.string ⟨#[42]⟩] w fun e w'=>e=.returned (.bool (false))/\∃n,w'=w.drewN n):=fun w hg h=>by have:=CI.o 42 w hg h;rw[decide_eq_false q0]at this;exact this
    have C1:Hd (∀w,GR g b w->VS b s i 0 a w->Calls prog 77 #[.pointer (some ⟨g,0,none⟩),.string ⟨#[120]⟩] w fun e w'=>e=.returned (.bool (false))/\∃n,w'=w.drewN n):=fun w hg h=>by have:=CI.o 120 w hg h;rw[decide_eq_false q1]at this;exact this
    have C2:Hd (∀w,GR g b w->VS b s i 0 a w->Calls prog 77 #[.pointer (some ⟨g,0,none⟩),.string ⟨#[88]⟩] w fun e w'=>e=.returned (.bool (true))/\∃n,w'=w.drewN n):=fun w hg h=>by have:=CI.o 88 w hg h;rw[decide_eq_true q2]at this;exact this
    have HZ:=ae (Pj q2);have hw:IntKind.i64.wrap ((i:Int)+1)=((i+1:Nat):Int):=by rw[IntKind.wrap_i64];have:=gK.o HZ.o;have:=jf.o;omega
    rw[HZ.o];clear q0 q1 q2;go_enter func126,ntmps126;go_wp2_with (go_at_call 77;refine(C0.o _ HG.o HV.o).mono ?_);rintro e u0 ⟨rfl,n,hn⟩;replace HV:Hd (VS b s i 0 a u0):=by show VS b s i 0 a u0;rw[hn];exact HV.o.drew _
    replace HG:Hd (GR g b u0):=by show GR g b u0;rw[hn];exact HG.o
    replace HW:Hd (w.grownBy u0 (some b)):=by show w.grownBy u0 (some b);rw[hn];exact aF HW.o _
    clear hn;go_wp2_with (go_at_call 77;refine(C1.o _ HG.o HV.o).mono ?_);rintro e u1 ⟨rfl,n,hn⟩;replace HV:Hd (VS b s i 0 a u1):=by show VS b s i 0 a u1;rw[hn];exact HV.o.drew _
    replace HG:Hd (GR g b u1):=by show GR g b u1;rw[hn];exact HG.o
    replace HW:Hd (w.grownBy u1 (some b)):=by show w.grownBy u1 (some b);rw[hn];exact aF HW.o _
    clear hn;go_wp2_with (go_at_call 77;refine(C2.o _ HG.o HV.o).mono ?_);rintro e u2 ⟨rfl,n,hn⟩;replace HV:Hd (VS b s i 0 a u2):=by show VS b s i 0 a u2;rw[hn];exact HV.o.drew _
    replace HG:Hd (GR g b u2):=by show GR g b u2;rw[hn];exact HG.o
    replace HW:Hd (w.grownBy u2 (some b)):=by show w.grownBy u2 (some b);rw[hn];exact aF HW.o _
    clear hn;have c1:=HV.o.c1;have f1:=HV.o.f1;have g0:u2.cell? ⟨g,0,none⟩=some (.pointer (some ⟨b,0,none⟩)):=HG.o;go_wp2;go_ret;exact⟨rfl,HV.o.set1 (i+1),bF HW.o _ _⟩
   ·have C0:Hd (∀w,GR g b w->VS b s i 0 a w->Calls prog 77 #[.pointer (some ⟨g,0,none⟩),.string ⟨#[42]⟩] w fun e w'=>e=.returned (.bool (false))/\∃n,w'=w.drewN n):=fun w hg h=>by have:=CI.o 42 w hg h;rw[decide_eq_false q0]at this;exact this
    have C1:Hd (∀w,GR g b w->VS b s i 0 a w->Calls prog 77 #[.pointer (some ⟨g,0,none⟩),.string ⟨#[120]⟩] w fun e w'=>e=.returned (.bool (false))/\∃n,w'=w.drewN n):=fun w hg h=>by have:=CI.o 120 w hg h;rw[decide_eq_false q1]at this;exact this
    have C2:Hd (∀w,GR g b w->VS b s i 0 a w->Calls prog 77 #[.pointer (some ⟨g,0,none⟩),.string ⟨#[88]⟩] w fun e w'=>e=.returned (.bool (false))/\∃n,w'=w.drewN n):=fun w hg h=>by have:=CI.o 88 w hg h;rw[decide_eq_false q2]at this;exact this
    have HZ:=ae (Pm q0 q1 q2);rw[HZ.o];clear q0 q1 q2;go_enter func126,ntmps126;go_wp2_with (go_at_call 77;refine(C0.o _ HG.o HV.o).mono ?_);rintro e u0 ⟨rfl,n,hn⟩;replace HV:Hd (VS b s i 0 a u0):=by show VS b s i 0 a u0;rw[hn];exact HV.o.drew _
    replace HG:Hd (GR g b u0):=by show GR g b u0;rw[hn];exact HG.o
    replace HW:Hd (w.grownBy u0 (some b)):=by show w.grownBy u0 (some b);rw[hn];exact aF HW.o _
    clear hn;go_wp2_with (go_at_call 77;refine(C1.o _ HG.o HV.o).mono ?_);rintro e u1 ⟨rfl,n,hn⟩;replace HV:Hd (VS b s i 0 a u1):=by show VS b s i 0 a u1;rw[hn];exact HV.o.drew _
    replace HG:Hd (GR g b u1):=by show GR g b u1;rw[hn];exact HG.o
    replace HW:Hd (w.grownBy u1 (some b)):=by show w.grownBy u1 (some b);rw[hn];exact aF HW.o _
    clear hn;go_wp2_with (go_at_call 77;refine(C2.o _ HG.o HV.o).mono ?_);rintro e u2 ⟨rfl,n,hn⟩;replace HV:Hd (VS b s i 0 a u2):=by show VS b s i 0 a u2;rw[hn];exact HV.o.drew _
    replace HG:Hd (GR g b u2):=by show GR g b u2;rw[hn];exact HG.o
    replace HW:Hd (w.grownBy u2 (some b)):=by show w.grownBy u2 (some b);rw[hn];exact aF HW.o _
    clear hn;go_wp2;go_ret;exact⟨rfl,HV.o,HW.o⟩
open Go.RowKit
def VP(v:Nat)(m y1 y2 y3:Int)(x4 x5:ByteArray)(w:World):Prop:=w.heap[v]?=some (.cells #[.int .i64 m,.int .i64 y1,.int .i64 y2,.int .i64 y3,.string x4,.string x5] 139 (0,0))
theorem VP.cells{v:Nat}{m y1 y2 y3:Int}{x4 x5:ByteArray}{w:World}(h:VP v m y1 y2 y3 x4 x5 w):w.cell? ⟨v,0,none⟩=some (.int .i64 m)/\w.cell? ⟨v,1,none⟩=some (.int .i64 y1)/\w.cell? ⟨v,2,none⟩=some (.int .i64 y2)/\w.cell? ⟨v,3,none⟩=some (.int .i64 y3)/\w.cell? ⟨v,4,none⟩=some (.string x4)/\w.cell? ⟨v,5,none⟩=some (.string x5) :=
 ⟨by rw[ag h];rfl,by rw[ag h];rfl,by rw[ag h];rfl,by rw[ag h];rfl,by rw[ag h];rfl,by rw[ag h];rfl⟩
theorem VP.f{v:Nat}{m y1 y2 y3:Int}{x4 x5:ByteArray}{w:World}(h:VP v m y1 y2 y3 x4 x5 w)(o:Nat):w.frozen? ⟨v,o,none⟩=false:=Lib.frozen_of_heap h o
theorem VP.grow{b v:Nat}{m y1 y2 y3:Int}{x4 x5:ByteArray}{w w':World}(h:VP v m y1 y2 y3 x4 x5 w)(hg:w.grownBy w' (some b))(hn:v≠b):VP v m y1 y2 y3 x4 x5 w':=by
 unfold VP at h ⊢;rw[hg.block v ((aA h)) (by simpa using hn)];exact h
theorem VP.grow0{v:Nat}{m y1 y2 y3:Int}{x4 x5:ByteArray}{w w':World}(h:VP v m y1 y2 y3 x4 x5 w)(hg:w.grownBy w' none):VP v m y1 y2 y3 x4 x5 w':=by
 unfold VP at h ⊢;rw[hg.block v ((aA h)) (by simp)];exact h
theorem VP.other{v u:Nat}{m y1 y2 y3:Int}{x4 x5:ByteArray}{w:World}(h:VP v m y1 y2 y3 x4 x5 w)(hn:v≠u)(o:Nat)(x:Value):VP v m y1 y2 y3 x4 x5 (w.setCell ⟨u,o,none⟩ x):=by
 unfold VP at h ⊢;rw[<-h];exact heap_setCell_other w _ v x hn
theorem VP.setN{v:Nat}{m y1 y2 y3:Int}{x4 x5:ByteArray}{w:World}(h:VP v m y1 y2 y3 x4 x5 w)(z:Int):VP v z y1 y2 y3 x4 x5 (w.setCell ⟨v,0,none⟩ (.int .i64 z)):=by
 unfold VP at h ⊢;simp[World.setCell,Array.getElem?_modify,h]
theorem VP.set0{v:Nat}{m y1 y2 y3:Int}{x4 x5:ByteArray}{w:World}(h:VP v m y1 y2 y3 x4 x5 w)(z:Int):VP v m z y2 y3 x4 x5 (w.setCell ⟨v,1,none⟩ (.int .i64 z)):=by
 unfold VP at h ⊢;simp[World.setCell,Array.getElem?_modify,h]
theorem VP.set1{v:Nat}{m y1 y2 y3:Int}{x4 x5:ByteArray}{w:World}(h:VP v m y1 y2 y3 x4 x5 w)(z:Int):VP v m y1 z y3 x4 x5 (w.setCell ⟨v,2,none⟩ (.int .i64 z)):=by
 unfold VP at h ⊢;simp[World.setCell,Array.getElem?_modify,h]
theorem VP.set2{v:Nat}{m y1 y2 y3:Int}{x4 x5:ByteArray}{w:World}(h:VP v m y1 y2 y3 x4 x5 w)(z:Int):VP v m y1 y2 z x4 x5 (w.setCell ⟨v,3,none⟩ (.int .i64 z)):=by
 unfold VP at h ⊢;simp[World.setCell,Array.getElem?_modify,h]
theorem VP.set3{v:Nat}{m y1 y2 y3:Int}{x4 x5:ByteArray}{w:World}(h:VP v m y1 y2 y3 x4 x5 w)(z:ByteArray):VP v m y1 y2 y3 z x5 (w.setCell ⟨v,4,none⟩ (.string z)):=by
 unfold VP at h ⊢;simp[World.setCell,Array.getElem?_modify,h]
theorem VP.set4{v:Nat}{m y1 y2 y3:Int}{x4 x5:ByteArray}{w:World}(h:VP v m y1 y2 y3 x4 x5 w)(z:ByteArray):VP v m y1 y2 y3 x4 z (w.setCell ⟨v,5,none⟩ (.string z)):=by
 unfold VP at h ⊢;simp[World.setCell,Array.getElem?_modify,h]
def Rh(b v:Nat)(s:ByteArray)(i:Nat)(m y1 y2 y3:Int)(w w':World):Prop :=
 ∃(j:Nat) (E:Int) (c:Nat) (P B:ByteArray),VS b s j E c w'/\VP v m y1 y2 y3 P B w'/\G2 b v w w'/\E=(aJ s.data.toList i).1/\(E=0->P=⟨(aJ s.data.toList i).2.2.1.toArray⟩/\B=⟨(aJ s.data.toList i).2.2.2.toArray⟩/\j=(aJ s.data.toList i).2.1/\j<=s.size)/\(E≠0->c=(aJ s.data.toList i).2.1)
theorem acf(b v:Nat)(s:ByteArray)(i:Nat)(E:Int)(hE:E≠0)(a:Nat)(w:World)(h:VS b s i E a w) :
  Calls prog 71 #[.pointer (some ⟨b,0,none⟩),.pointer (some ⟨v,1,none⟩)] w fun e w'=>e=.returned (.tuple #[])/\∃n,w'=w.drewN n:=by
 have h0:=h.c0;have h1:=h.c1;have h2:=h.c2;have HR:=ae h;have hn:(E == 0)=false:=by simpa using hE
 clear h hE;go_enter func71,ntmps71;go_wp2;go_quiet (fail);go_wp2;obtain⟨W,hW⟩:=zN (w.drewN nq);have HW:=ae hW.symm;have e0:W.cell? ⟨b,0,none⟩=some (.string s):=by rw[<-hW];exact h0
 have e1:W.cell? ⟨b,1,none⟩=some (.int .i64 (i:Int)):=by rw[<-hW];exact h1
 have e2:W.cell? ⟨b,2,none⟩=some (.int .i64 E):=by rw[<-hW];exact h2
 rw[hW];clear hW h0 h1 h2;go_quiet (fail);go_wp2
 go_end0
 exact⟨rfl,_,by rw[HW.o,World.drewN_drewN]⟩
theorem acg(b v:Nat)(s:ByteArray)(i:Nat)(a:Nat)(m y1 y2 y3:Int)(w:World)(hi:i<=s.size)(h:VS b s i 0 a w)(hv:VP v m y1 y2 y3 ⟨#[]⟩ ⟨#[]⟩ w)(hbv:b≠v)(hs:s.size<2 ^ 62) :
  Calls prog 71 #[.pointer (some ⟨b,0,none⟩),.pointer (some ⟨v,1,none⟩)] w fun e w'=>e=.returned (.tuple #[])/\Rh b v s i m y1 y2 y3 w w':=by
 have bP:Hd (s.data.toList.length=s.size):=by show s.data.toList.length=s.size;simp
 have PP:=ae (fun st i a w (hi:i<=s.size) (h:VS b s i 0 a w)=>PI st b s i a w hi h hs);have HI:=ae h;have BH:=ae hv;have fC:=ae hbv;have lm:=ae hi;have HS:=ae hs;have GET:=ae (iD s);have g0:=h.c0;have g1:=h.c1;have g2:=h.c2;clear h hv hbv hi hs;go_enter func71,ntmps71
 by_cases hlt1:i<s.size
 ·have hl2:((i:Nat):Int)<(s.size:Int):=by omega
  cases hc1:((s[i].toNat:Int) == 45) with
  | true =>
   have uz:Hd (s.data.toList[i]?=some 45):=by
    show s.data.toList[i]?=some 45;rw[GET.o _ hlt1,show s[i]=45 from UInt8.toNat_inj.1 (by have:=eq_of_beq hc1;have e:(45:UInt8).toNat=45:=rfl;omega)]
   have BI:=ae hlt1;go_wp2;go_quiet (fail);obtain⟨U1,hU⟩:=zN ((w).drewN nq);have dE:Hd (VS b s (i) 0 a U1):=by show VS _ _ _ _ _ U1;rw[<-hU];exact HI.o.drew _
   have pJ:Hd (VP v m y1 y2 y3 ⟨#[]⟩ ⟨#[]⟩ U1):=by show VP _ _ _ _ _ _ _ U1;rw[<-hU];exact BH.o
   have pK:Hd (G2 b v w U1):=by show G2 b v w U1;rw[<-hU];exact(G2.refl b v w).drew _
   have k0:=dE.o.c0;have k1:=dE.o.c1;have k2:=dE.o.c2;have kf:=dE.o.f1
   try rw[hU]
   clear hU g0 g1 g2;clear hc1;have wG:=oO (st:=true) uz.o;have hw:IntKind.i64.wrap ((i:Int)+1)=((i+1:Nat):Int):=by rw[IntKind.wrap_i64];have:=HS.o;have:=BI.o;omega
   have sU:=ae wG;clear wG;go_wp2_with (first|(go_at_call 94;refine(PP.o true (i+1) _ _ BI.o (dE.o.set1 (i+1))).mono ?_));rintro e u1 ⟨V1,j1,E1,c1,rfl,hvs,hg,hE,hok,herr⟩;have lh:=ae hvs;have uU:=ae ((pJ.o.other (Ne.symm fC.o) _ _).grow hg (Ne.symm fC.o));have Ey:=ae ((pK.o.set1 _ _).step hg);have fQ:Hd (E1=(aO true s.data.toList (i+1)).1/\(E1=0->V1=⟨(aK s.data.toList (i+1) (j1-(i+1))).toArray⟩/\j1=(aO true s.data.toList (i+1)).2/\j1<=s.size)/\(E1≠0->c1=(aO true s.data.toList (i+1)).2)):=⟨hE,hok,herr⟩;have kv:=uU.o.f;obtain⟨qm,q0,q1,q2,q3,q4⟩:=uU.o.cells;clear hvs hg hE hok herr k0 k1 k2 kf hw;obtain⟨W1,hW⟩:=zN (u1.setCell ⟨v,4,none⟩ (.string V1));have HW1:Hd (VS b s j1 E1 c1 W1):=by show VS _ _ _ _ _ W1;rw[<-hW];exact lh.o.other fC.o _ _
   have qL:Hd (VP v m y1 y2 y3 V1 ⟨#[]⟩ W1):=by show VP _ _ _ _ _ _ _ W1;rw[<-hW];exact uU.o.set3 _
   have EQ:Hd (G2 b v w W1):=by show G2 b v w W1;rw[<-hW];exact Ey.o.set _ _
   go_wp2
   try rw[hW]
   clear hW kv q0 q1 q2 q3 q4;have g0:=HW1.o.c0;have g1:=HW1.o.c1;have g2:=HW1.o.c2
   cases hz:(E1 == 0) with
   | false =>
    have HZ:Hd (¬E1=0):=by show ¬E1=0;simpa using hz
    go_quiet (fail);go_wp2
    go_end0
    refine⟨rfl,j1,E1,c1,V1,⟨#[]⟩,HW1.o.drew _,qL.o,EQ.o.drew _,?_,fun h=>absurd h HZ.o,fun _=>?_⟩
    ·have h9:¬(aO true s.data.toList (i+1)).1=0:=fun e=>HZ.o (fQ.o.1.trans e)
     unfold aJ;rw[sU.o];simp only[if_neg h9];exact fQ.o.1
    ·have h9:¬(aO true s.data.toList (i+1)).1=0:=fun e=>HZ.o (fQ.o.1.trans e)
     unfold aJ;rw[sU.o];simp only[if_neg h9];exact fQ.o.2.2 HZ.o
   | true =>
    have h0:E1=0:=by simpa using hz
    subst h0;clear hz;have HK:=ae (fQ.o.2.1 rfl);have qM:=ae HK.o.2.2;have dC:Hd (aX 45 true s.data.toList (i)=(0,j1,aK s.data.toList (i+1) (j1-(i+1)))):=by
     show aX 45 true s.data.toList i=_;have h9:=fQ.o.1.symm;rw[sU.o,h9,HK.o.2.1];unfold fV;rw[if_pos h9]
    have mD:=ae HK.o.1;clear fQ
    by_cases hlt3:j1<s.size
    ·have hl2:((j1:Nat):Int)<(s.size:Int):=by omega
     cases hc3:((s[j1].toNat:Int) == 43) with
     | true =>
      have tJ:Hd (s.data.toList[j1]?=some 43):=by
       show s.data.toList[j1]?=some 43;rw[GET.o _ hlt3,show s[j1]=43 from UInt8.toNat_inj.1 (by have:=eq_of_beq hc3;have e:(43:UInt8).toNat=43:=rfl;omega)]
      have BJ:=ae hlt3
      try go_wp2
      go_quiet (fail);obtain⟨U3,hU⟩:=zN ((W1).drewN nq);have eU:Hd (VS b s (j1) 0 c1 U3):=by show VS _ _ _ _ _ U3;rw[<-hU];exact HW1.o.drew _
      have uV:Hd (VP v m y1 y2 y3 V1 ⟨#[]⟩ U3):=by show VP _ _ _ _ _ _ _ U3;rw[<-hU];exact qL.o
      have uX:Hd (G2 b v w U3):=by show G2 b v w U3;rw[<-hU];exact EQ.o.drew _
      have k0:=eU.o.c0;have k1:=eU.o.c1;have k2:=eU.o.c2;have kf:=eU.o.f1
      try rw[hU]
      clear hU g0 g1 g2;clear hc3;have hO2:=oO (st:=false) tJ.o;have dh:=ae hO2;clear hO2;have hw:IntKind.i64.wrap (((j1:Nat):Int)+1)=((j1+1:Nat):Int):=by rw[IntKind.wrap_i64];have:=HS.o;have:=BJ.o;omega
      go_wp2_with (first|(go_at_call 94;refine(PP.o false (j1+1) _ _ BJ.o (eU.o.set1 (j1+1))).mono ?_));rintro e u3 ⟨V3,j3,E3,c3,rfl,hvs,hg,hE,hok,herr⟩;have HF3:=ae hvs;have wW:=ae ((uV.o.other (Ne.symm fC.o) _ _).grow hg (Ne.symm fC.o));have IE:=ae ((uX.o.set1 _ _).step hg);have iQ:Hd (E3=(aO false s.data.toList (j1+1)).1/\(E3=0->V3=⟨(aK s.data.toList (j1+1) (j3-(j1+1))).toArray⟩/\j3=(aO false s.data.toList (j1+1)).2/\j3<=s.size)/\(E3≠0->c3=(aO false s.data.toList (j1+1)).2)):=⟨hE,hok,herr⟩;have kv:=wW.o.f;obtain⟨qm,q0,q1,q2,q3,q4⟩:=wW.o.cells;clear hvs hg hE hok herr k0 k1 k2 kf hw;go_wp2
      go_end0
      refine⟨rfl,j3,E3,c3,V1,V3,HF3.o.other fC.o _ _,wW.o.set4 _,IE.o.set _ _,?_,?_,?_⟩
      ·rw[iQ.o.1];unfold aJ;rw[dC.o];simp only[if_true];rw[dh.o];simp only;split<;>simp_all
      ·intro h0;obtain⟨e1,e2,e3⟩:=iQ.o.2.1 h0;have h9:=iQ.o.1.symm.trans h0;have hp:fV false s.data.toList (j1+1)=aK s.data.toList (j1+1) ((aO false s.data.toList (j1+1)).2-(j1+1)):=by unfold fV;rw[if_pos h9]
       unfold aJ;rw[dC.o];simp only[if_true];rw[dh.o];simp only[if_pos h9];exact⟨mD.o,by rw[e1,e2,hp],e2,e3⟩
      ·intro h0;have h9:¬(aO false s.data.toList (j1+1)).1=0:=fun e=>h0 (iQ.o.1.trans e)
       unfold aJ;rw[dC.o];simp only[if_true];rw[dh.o];simp only[if_neg h9];exact iQ.o.2.2 h0
     | false =>
      have tJ:Hd (¬s.data.toList[j1]?=some 43):=by
       show ¬s.data.toList[j1]?=some 43;rw[GET.o _ hlt3];intro e;rw[Option.some.inj e]at hc3;exact absurd hc3 (by decide)
      try go_wp2
      go_quiet (fail);obtain⟨U3,hU⟩:=zN ((W1).drewN nq);have eU:Hd (VS b s (j1) 0 c1 U3):=by show VS _ _ _ _ _ U3;rw[<-hU];exact HW1.o.drew _
      have uV:Hd (VP v m y1 y2 y3 V1 ⟨#[]⟩ U3):=by show VP _ _ _ _ _ _ _ U3;rw[<-hU];exact qL.o
      have uX:Hd (G2 b v w U3):=by show G2 b v w U3;rw[<-hU];exact EQ.o.drew _
      have k0:=eU.o.c0;have k1:=eU.o.c1;have k2:=eU.o.c2;have kf:=eU.o.f1
      try rw[hU]
      clear hU g0 g1 g2;clear hc3;have dh:Hd (aX 43 false s.data.toList (j1)=(0,j1,[])):=mi tJ.o;go_wp2
      go_end0
      refine⟨rfl,j1,0,_,V1,⟨#[]⟩,eU.o,uV.o,uX.o,?_,?_,fun h=>absurd rfl h⟩
      ·unfold aJ;rw[dC.o];simp only[if_true];rw[dh.o];simp only[if_true]
      ·intro _;unfold aJ;rw[dC.o];simp only[if_true];rw[dh.o];simp only[if_true];exact⟨mD.o,by first|trivial|rfl,by first|trivial|rfl,qM.o⟩
    ·have hl2:decide (((j1:Nat):Int)<(s.size:Int))=false:=by simp;omega
     have tJ:Hd (¬s.data.toList[j1]?=some 43):=by
      show ¬s.data.toList[j1]?=some 43;intro e;have:=(List.getElem?_eq_some_iff.1 e).1;rw[bP.o]at this;exact hlt3 this
     try go_wp2
     go_quiet (fail);obtain⟨U3,hU⟩:=zN ((W1).drewN nq);have eU:Hd (VS b s (j1) 0 c1 U3):=by show VS _ _ _ _ _ U3;rw[<-hU];exact HW1.o.drew _
     have uV:Hd (VP v m y1 y2 y3 V1 ⟨#[]⟩ U3):=by show VP _ _ _ _ _ _ _ U3;rw[<-hU];exact qL.o
     have uX:Hd (G2 b v w U3):=by show G2 b v w U3;rw[<-hU];exact EQ.o.drew _
     have k0:=eU.o.c0;have k1:=eU.o.c1;have k2:=eU.o.c2;have kf:=eU.o.f1
     try rw[hU]
     clear hU g0 g1 g2;clear hl2 hlt3;have dh:Hd (aX 43 false s.data.toList (j1)=(0,j1,[])):=mi tJ.o;go_wp2
     go_end0
     refine⟨rfl,j1,0,_,V1,⟨#[]⟩,eU.o,uV.o,uX.o,?_,?_,fun h=>absurd rfl h⟩
     ·unfold aJ;rw[dC.o];simp only[if_true];rw[dh.o];simp only[if_true]
     ·intro _;unfold aJ;rw[dC.o];simp only[if_true];rw[dh.o];simp only[if_true];exact⟨mD.o,by first|trivial|rfl,by first|trivial|rfl,qM.o⟩
  | false =>
   have uz:Hd (¬s.data.toList[i]?=some 45):=by
    show ¬s.data.toList[i]?=some 45;rw[GET.o _ hlt1];intro e;rw[Option.some.inj e]at hc1;exact absurd hc1 (by decide)
   go_wp2;go_quiet (fail);obtain⟨U1,hU⟩:=zN ((w).drewN nq);have dE:Hd (VS b s (i) 0 a U1):=by show VS _ _ _ _ _ U1;rw[<-hU];exact HI.o.drew _
   have pJ:Hd (VP v m y1 y2 y3 ⟨#[]⟩ ⟨#[]⟩ U1):=by show VP _ _ _ _ _ _ _ U1;rw[<-hU];exact BH.o
   have pK:Hd (G2 b v w U1):=by show G2 b v w U1;rw[<-hU];exact(G2.refl b v w).drew _
   have k0:=dE.o.c0;have k1:=dE.o.c1;have k2:=dE.o.c2;have kf:=dE.o.f1
   try rw[hU]
   clear hU g0 g1 g2;clear hc1;have dC:Hd (aX 45 true s.data.toList (i)=(0,i,[])):=mi uz.o;have HJ2:=ae lm.o;have g0:=dE.o.c0;have g1:=dE.o.c1;have g2:=dE.o.c2;clear k0 k1 k2 kf
   by_cases hlt2:i<s.size
   ·have hl2:((i:Nat):Int)<(s.size:Int):=by omega
    cases hc2:((s[i].toNat:Int) == 43) with
    | true =>
     have HC2:Hd (s.data.toList[i]?=some 43):=by
      show s.data.toList[i]?=some 43;rw[GET.o _ hlt2,show s[i]=43 from UInt8.toNat_inj.1 (by have:=eq_of_beq hc2;have e:(43:UInt8).toNat=43:=rfl;omega)]
     have BP:=ae hlt2
     try go_wp2
     go_quiet (fail);obtain⟨U2,hU⟩:=zN ((U1).drewN nq);have dR:Hd (VS b s (i) 0 a U2):=by show VS _ _ _ _ _ U2;rw[<-hU];exact dE.o.drew _
     have tK:Hd (VP v m y1 y2 y3 ⟨#[]⟩ ⟨#[]⟩ U2):=by show VP _ _ _ _ _ _ _ U2;rw[<-hU];exact pJ.o
     have tN:Hd (G2 b v w U2):=by show G2 b v w U2;rw[<-hU];exact pK.o.drew _
     have k0:=dR.o.c0;have k1:=dR.o.c1;have k2:=dR.o.c2;have kf:=dR.o.f1
     try rw[hU]
     clear hU g0 g1 g2;clear hc2;have hO2:=oO (st:=false) HC2.o;have dh:=ae hO2;clear hO2;have hw:IntKind.i64.wrap (((i:Nat):Int)+1)=((i+1:Nat):Int):=by rw[IntKind.wrap_i64];have:=HS.o;have:=BP.o;omega
     go_wp2_with (first|(go_at_call 94;refine(PP.o false (i+1) _ _ BP.o (dR.o.set1 (i+1))).mono ?_));rintro e u2 ⟨V2,j2,E2,c2,rfl,hvs,hg,hE,hok,herr⟩;have HF2:=ae hvs;have xe:=ae ((tK.o.other (Ne.symm fC.o) _ _).grow hg (Ne.symm fC.o));have Ju:=ae ((tN.o.set1 _ _).step hg);have fZ:Hd (E2=(aO false s.data.toList (i+1)).1/\(E2=0->V2=⟨(aK s.data.toList (i+1) (j2-(i+1))).toArray⟩/\j2=(aO false s.data.toList (i+1)).2/\j2<=s.size)/\(E2≠0->c2=(aO false s.data.toList (i+1)).2)):=⟨hE,hok,herr⟩;have kv:=xe.o.f;obtain⟨qm,q0,q1,q2,q3,q4⟩:=xe.o.cells;clear hvs hg hE hok herr k0 k1 k2 kf hw;go_wp2
     go_end0
     refine⟨rfl,j2,E2,c2,⟨#[]⟩,V2,HF2.o.other fC.o _ _,xe.o.set4 _,Ju.o.set _ _,?_,?_,?_⟩
     ·rw[fZ.o.1];unfold aJ;rw[dC.o];simp only[if_true];rw[dh.o];simp only;split<;>simp_all
     ·intro h0;obtain⟨e1,e2,e3⟩:=fZ.o.2.1 h0;have h9:=fZ.o.1.symm.trans h0;have hp:fV false s.data.toList (i+1)=aK s.data.toList (i+1) ((aO false s.data.toList (i+1)).2-(i+1)):=by unfold fV;rw[if_pos h9]
      unfold aJ;rw[dC.o];simp only[if_true];rw[dh.o];simp only[if_pos h9];exact⟨by first|trivial|rfl,by rw[e1,e2,hp],e2,e3⟩
     ·intro h0;have h9:¬(aO false s.data.toList (i+1)).1=0:=fun e=>h0 (fZ.o.1.trans e)
      unfold aJ;rw[dC.o];simp only[if_true];rw[dh.o];simp only[if_neg h9];exact fZ.o.2.2 h0
    | false =>
     have HC2:Hd (¬s.data.toList[i]?=some 43):=by
      show ¬s.data.toList[i]?=some 43;rw[GET.o _ hlt2];intro e;rw[Option.some.inj e]at hc2;exact absurd hc2 (by decide)
     try go_wp2
     go_quiet (fail);obtain⟨U2,hU⟩:=zN ((U1).drewN nq);have dR:Hd (VS b s (i) 0 a U2):=by show VS _ _ _ _ _ U2;rw[<-hU];exact dE.o.drew _
     have tK:Hd (VP v m y1 y2 y3 ⟨#[]⟩ ⟨#[]⟩ U2):=by show VP _ _ _ _ _ _ _ U2;rw[<-hU];exact pJ.o
     have tN:Hd (G2 b v w U2):=by show G2 b v w U2;rw[<-hU];exact pK.o.drew _
     have k0:=dR.o.c0;have k1:=dR.o.c1;have k2:=dR.o.c2;have kf:=dR.o.f1
     try rw[hU]
     clear hU g0 g1 g2;clear hc2;have dh:Hd (aX 43 false s.data.toList (i)=(0,i,[])):=mi HC2.o;go_wp2
     go_end0
     refine⟨rfl,i,0,_,⟨#[]⟩,⟨#[]⟩,dR.o,tK.o,tN.o,?_,?_,fun h=>absurd rfl h⟩
     ·unfold aJ;rw[dC.o];simp only[if_true];rw[dh.o];simp only[if_true]
     ·intro _;unfold aJ;rw[dC.o];simp only[if_true];rw[dh.o];simp only[if_true];exact⟨by first|trivial|rfl,by first|trivial|rfl,by first|trivial|rfl,HJ2.o⟩
   ·exact absurd hlt1 hlt2
 ·have hl2:decide (((i:Nat):Int)<(s.size:Int))=false:=by simp;omega
  have uz:Hd (¬s.data.toList[i]?=some 45):=by
   show ¬s.data.toList[i]?=some 45;intro e;have:=(List.getElem?_eq_some_iff.1 e).1;rw[bP.o]at this;exact hlt1 this
  go_wp2;go_quiet (fail);obtain⟨U1,hU⟩:=zN ((w).drewN nq);have dE:Hd (VS b s (i) 0 a U1):=by show VS _ _ _ _ _ U1;rw[<-hU];exact HI.o.drew _
  have pJ:Hd (VP v m y1 y2 y3 ⟨#[]⟩ ⟨#[]⟩ U1):=by show VP _ _ _ _ _ _ _ U1;rw[<-hU];exact BH.o
  have pK:Hd (G2 b v w U1):=by show G2 b v w U1;rw[<-hU];exact(G2.refl b v w).drew _
  have k0:=dE.o.c0;have k1:=dE.o.c1;have k2:=dE.o.c2;have kf:=dE.o.f1
  try rw[hU]
  clear hU g0 g1 g2;clear hl2 hlt1;have dC:Hd (aX 45 true s.data.toList (i)=(0,i,[])):=mi uz.o;have HJ2:=ae lm.o;have g0:=dE.o.c0;have g1:=dE.o.c1;have g2:=dE.o.c2;clear k0 k1 k2 kf
  by_cases hlt2:i<s.size
  ·have hl2:((i:Nat):Int)<(s.size:Int):=by omega
   cases hc2:((s[i].toNat:Int) == 43) with
   | true =>
    have HC2:Hd (s.data.toList[i]?=some 43):=by
     show s.data.toList[i]?=some 43;rw[GET.o _ hlt2,show s[i]=43 from UInt8.toNat_inj.1 (by have:=eq_of_beq hc2;have e:(43:UInt8).toNat=43:=rfl;omega)]
    have BP:=ae hlt2
    try go_wp2
    go_quiet (fail);obtain⟨U2,hU⟩:=zN ((U1).drewN nq);have dR:Hd (VS b s (i) 0 a U2):=by show VS _ _ _ _ _ U2;rw[<-hU];exact dE.o.drew _
    have tK:Hd (VP v m y1 y2 y3 ⟨#[]⟩ ⟨#[]⟩ U2):=by show VP _ _ _ _ _ _ _ U2;rw[<-hU];exact pJ.o
    have tN:Hd (G2 b v w U2):=by show G2 b v w U2;rw[<-hU];exact pK.o.drew _
    have k0:=dR.o.c0;have k1:=dR.o.c1;have k2:=dR.o.c2;have kf:=dR.o.f1
    try rw[hU]
    clear hU g0 g1 g2;clear hc2;have hO2:=oO (st:=false) HC2.o;have dh:=ae hO2;clear hO2;have hw:IntKind.i64.wrap (((i:Nat):Int)+1)=((i+1:Nat):Int):=by rw[IntKind.wrap_i64];have:=HS.o;have:=BP.o;omega
    go_wp2_with (first|(go_at_call 94;refine(PP.o false (i+1) _ _ BP.o (dR.o.set1 (i+1))).mono ?_));rintro e u2 ⟨V2,j2,E2,c2,rfl,hvs,hg,hE,hok,herr⟩;have HF2:=ae hvs;have xe:=ae ((tK.o.other (Ne.symm fC.o) _ _).grow hg (Ne.symm fC.o));have Ju:=ae ((tN.o.set1 _ _).step hg);have fZ:Hd (E2=(aO false s.data.toList (i+1)).1/\(E2=0->V2=⟨(aK s.data.toList (i+1) (j2-(i+1))).toArray⟩/\j2=(aO false s.data.toList (i+1)).2/\j2<=s.size)/\(E2≠0->c2=(aO false s.data.toList (i+1)).2)):=⟨hE,hok,herr⟩;have kv:=xe.o.f;obtain⟨qm,q0,q1,q2,q3,q4⟩:=xe.o.cells;clear hvs hg hE hok herr k0 k1 k2 kf hw;go_wp2
    go_end0
    refine⟨rfl,j2,E2,c2,⟨#[]⟩,V2,HF2.o.other fC.o _ _,xe.o.set4 _,Ju.o.set _ _,?_,?_,?_⟩
    ·rw[fZ.o.1];unfold aJ;rw[dC.o];simp only[if_true];rw[dh.o];simp only;split<;>simp_all
    ·intro h0;obtain⟨e1,e2,e3⟩:=fZ.o.2.1 h0;have h9:=fZ.o.1.symm.trans h0;have hp:fV false s.data.toList (i+1)=aK s.data.toList (i+1) ((aO false s.data.toList (i+1)).2-(i+1)):=by unfold fV;rw[if_pos h9]
     unfold aJ;rw[dC.o];simp only[if_true];rw[dh.o];simp only[if_pos h9];exact⟨by first|trivial|rfl,by rw[e1,e2,hp],e2,e3⟩
    ·intro h0;have h9:¬(aO false s.data.toList (i+1)).1=0:=fun e=>h0 (fZ.o.1.trans e)
     unfold aJ;rw[dC.o];simp only[if_true];rw[dh.o];simp only[if_neg h9];exact fZ.o.2.2 h0
   | false =>
    have HC2:Hd (¬s.data.toList[i]?=some 43):=by
     show ¬s.data.toList[i]?=some 43;rw[GET.o _ hlt2];intro e;rw[Option.some.inj e]at hc2;exact absurd hc2 (by decide)
    try go_wp2
    go_quiet (fail);obtain⟨U2,hU⟩:=zN ((U1).drewN nq);have dR:Hd (VS b s (i) 0 a U2):=by show VS _ _ _ _ _ U2;rw[<-hU];exact dE.o.drew _
    have tK:Hd (VP v m y1 y2 y3 ⟨#[]⟩ ⟨#[]⟩ U2):=by show VP _ _ _ _ _ _ _ U2;rw[<-hU];exact pJ.o
    have tN:Hd (G2 b v w U2):=by show G2 b v w U2;rw[<-hU];exact pK.o.drew _
    have k0:=dR.o.c0;have k1:=dR.o.c1;have k2:=dR.o.c2;have kf:=dR.o.f1
    try rw[hU]
    clear hU g0 g1 g2;clear hc2;have dh:Hd (aX 43 false s.data.toList (i)=(0,i,[])):=mi HC2.o;go_wp2
    go_end0
    refine⟨rfl,i,0,_,⟨#[]⟩,⟨#[]⟩,dR.o,tK.o,tN.o,?_,?_,fun h=>absurd rfl h⟩
    ·unfold aJ;rw[dC.o];simp only[if_true];rw[dh.o];simp only[if_true]
    ·intro _;unfold aJ;rw[dC.o];simp only[if_true];rw[dh.o];simp only[if_true];exact⟨by first|trivial|rfl,by first|trivial|rfl,by first|trivial|rfl,HJ2.o⟩
  ·have hl2:decide (((i:Nat):Int)<(s.size:Int))=false:=by simp;omega
   have HC2:Hd (¬s.data.toList[i]?=some 43):=by
    show ¬s.data.toList[i]?=some 43;intro e;have:=(List.getElem?_eq_some_iff.1 e).1;rw[bP.o]at this;exact hlt2 this
   try go_wp2
   go_quiet (fail);obtain⟨U2,hU⟩:=zN ((U1).drewN nq);have dR:Hd (VS b s (i) 0 a U2):=by show VS _ _ _ _ _ U2;rw[<-hU];exact dE.o.drew _
   have tK:Hd (VP v m y1 y2 y3 ⟨#[]⟩ ⟨#[]⟩ U2):=by show VP _ _ _ _ _ _ _ U2;rw[<-hU];exact pJ.o
   have tN:Hd (G2 b v w U2):=by show G2 b v w U2;rw[<-hU];exact pK.o.drew _
   have k0:=dR.o.c0;have k1:=dR.o.c1;have k2:=dR.o.c2;have kf:=dR.o.f1
   try rw[hU]
   clear hU g0 g1 g2;clear hl2 hlt2;have dh:Hd (aX 43 false s.data.toList (i)=(0,i,[])):=mi HC2.o;go_wp2
   go_end0
   refine⟨rfl,i,0,_,⟨#[]⟩,⟨#[]⟩,dR.o,tK.o,tN.o,?_,?_,fun h=>absurd rfl h⟩
   ·unfold aJ;rw[dC.o];simp only[if_true];rw[dh.o];simp only[if_true]
   ·intro _;unfold aJ;rw[dC.o];simp only[if_true];rw[dh.o];simp only[if_true];exact⟨by first|trivial|rfl,by first|trivial|rfl,by first|trivial|rfl,HJ2.o⟩
end Go.Proofs.YtapodndfpecglaaGreatDoor
