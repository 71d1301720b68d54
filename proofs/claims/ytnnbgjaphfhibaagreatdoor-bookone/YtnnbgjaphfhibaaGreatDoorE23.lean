import Derived.Test.YtnnbgjaphfhibaaGreatDoorE19
import Derived.Deep.RegionLaw
import Derived.Test.YtnnbgjaphfhibaaGreatDoorE16
import Derived.Maps.OwnSet
import Derived.Maps.AppendAt
set_option linter.all false
set_option maxRecDepth 100000
set_option maxHeartbeats 0
open Go.Proofs.Tryz
namespace Go.Proofs.YtnnbgjaphfhibaaGreatDoor
open Go.RowKit
def aeg:Value->Nat
 | .bool true=>1
 | _=>0
def WH(st:Bool)(b:Nat)(s:ByteArray)(i:Nat)(w:World)(e:Ending)(w':World):Prop :=
 ∃(v:ByteArray) (j:Nat) (E:Int) (c:Nat),e=.returned (.string v)/\VS b s j E c w'/\w.grownBy w' (some b)/\E=(aQ st s.data.toList i).1/\(E=0->v=⟨(aj s.data.toList i (j-i)).toArray⟩/\j=(aQ st s.data.toList i).2/\j<=s.size)/\(E≠0->c=(aQ st s.data.toList i).2)
theorem aeh(st:Bool)(b:Nat)(s:ByteArray)(i:Nat)(a:Nat)(w:World)(hi:i<=s.size)(h:VS b s i 0 a w)(hs:s.size<2 ^ 62) :
  Calls prog 204 #[.pointer (some ⟨b,0,none⟩),.bool st] w (WH st b s i w):=by
 have h1:=h.c1;have HR:=ae h;have HI:=ae hi;obtain⟨R,hR⟩:=zN (aQ st s.data.toList i);have HRR:=ae hR;have HP:Hd (∀(v:ByteArray) (j:Nat) (E:Int) (c:Nat) (w':World),VS b s j E c w'->w.grownBy w' (some b)->v=⟨(aj s.data.toList i (j-i)).toArray⟩->j<=s.size->(E=0->R=(0,j))->(E≠0->R=(E,c))->WH st b s i w (.returned (.string v)) w'):=by
  intro v j E c w' hv hg he hj h0 h1;refine⟨v,j,E,c,rfl,hv,hg,?_⟩;rw[hR]
  by_cases hE:E=0
  ·have:=h0 hE;subst hE;rw[this];exact⟨rfl,fun _=>⟨he,rfl,hj⟩,fun h=>absurd rfl h⟩
  ·have:=h1 hE;rw[this];exact⟨rfl,fun h=>absurd h hE,fun _=>rfl⟩
 clear hR h hi;go_enter func204,ntmps204;go_wp2;go_loopw [6] (fun vm wr=>∃(mo:Bool) (j c:Nat) (E:Int),vm=.bool mo/\i<=j/\j<=s.size/\VS b s j E c wr/\w.grownBy wr (some b)/\(E=0->(mo=true->aQ st s.data.toList j=R)/\(mo=false->R=(0,j)))/\(E≠0->R=(E,c))) (fun vm wr=>2*(s.size-placeOf b wr)+aeg vm)
 case atStart=>exact⟨true,i,a,0,rfl,Nat.le_refl _,HI.o,HR.o,au _ _,fun _=>⟨fun _=>HRR.o,fun h=>absurd h (by decide)⟩,fun h=>absurd rfl h⟩
 case round =>
  obtain⟨mo,j,c,E,rfl,hij,hjs,hrs,hgb,hp0,hp1⟩:=hrel;have d0:=hrs.c0;have d1:=hrs.c1;have d2:=hrs.c2;have df:=hrs.f1;have dD:=ae hrs;have aH:=ae hgb;have Ob:=ae hp0;have mP:=ae hp1;have HJ:Hd (i<=j/\j<=s.size):=⟨hij,hjs⟩;clear hrs hgb h1 HR hp0 hp1 hij hjs;have sl:=fun wx=>lM s i j HJ.o.1 HJ.o.2 wx
  cases mo with
  | false =>
   go_wp2;go_quiet (fail);go_wp2;go_ret;exact HP.o _ j E c _ (dD.o.drew _) (ay aH.o _) rfl HJ.o.2 (fun h=>(Ob.o h).2 (by first|rfl|trivial)) mP.o
  | true =>
   cases hz:(E == 0) with
   | false =>
    go_wp2;go_quiet (fail);go_wp2;go_ret;exact HP.o _ j E c _ (dD.o.drew _) (ay aH.o _) rfl HJ.o.2 (fun h=>absurd h (by simpa using hz)) mP.o
   | true =>
    have hE:E=0:=by simpa using hz
    subst hE;have dJ:=ae ((Ob.o rfl).1 rfl);have lS:=ae dD.o.place;obtain⟨k,hk⟩:=zN (runN aX s.data.toList j);have hsl:s.data.toList.length=s.size:=by simp
    have HN:Hd (j+k<=s.size):=by
     show j+k<=s.size;have:=tq aX s.data.toList j (by rw[hsl];exact HJ.o.2);rw[hsl]at this;omega
    have HA:Hd (∀q,j<=q->(hq:q<s.size)->q<j+k->aX s[q]=true):=by
     show ∀q,j<=q->(hq:q<s.size)->q<j+k->aX s[q]=true;intro q h1 hq h2;obtain⟨g1,g2⟩:=KC aX s.data.toList j (q-j) (by omega);have e:j+(q-j)=q:=by omega
     simp only[e]at g2;exact g2
    have HS:Hd (∀q,q=j+k->(hq:q<s.size)->aX s[q]=false):=by
     show ∀q,q=j+k->(hq:q<s.size)->aX s[q]=false;intro q e hq;have:=Gp aX s.data.toList j (by rw[hk];simpa [<-e] using hq);simp only[hk,<-e]at this;exact this
    obtain⟨T,hT⟩:=zN (aj s.data.toList j k);have WI:Hd (T.length=k):=by show T.length=k;rw[<-hT];exact tu s.data.toList j k (by rw[hsl];exact HN.o)
    obtain⟨X,hX⟩:∃X:ByteArray,X=⟨T.toArray⟩:=⟨_,rfl⟩;have Oc:Hd (X.data.toList=T):=by show X.data.toList=T;rw[hX]
    have iJ:Hd (∀q,q=j+k->∀wx,(Instr.slice 9 (.string s) (some (.int .i64 (j:Int))) (some (.int .i64 (q:Int))) none).run prog wx=.ok (.string X) wx):=by
     show ∀q,q=j+k->∀wx,(Instr.slice 9 (.string s) (some (.int .i64 (j:Int))) (some (.int .i64 (q:Int))) none).run prog wx=.ok (.string X) wx;intro q e wx;subst e;have:=lM s j (j+k) (by omega) HN.o wx;rw[show j+k-j=k by omega,hT,<-hX]at this;exact this
    have HST:Hd ((if k=0 then(2,j) else if kL st T=true then(2,j) else if s.data.toList[j+k]?=some 46 then aQ st s.data.toList (j+k+1) else(0,j+k))=R):=by
     have:=dJ.o;rw[Gs,hk,hT]at this;exact this
    clear hz sl hk hT hX dJ Ob mP hsl;go_wp2;go_loopw [] (fun wq=>∃q:Nat,j<=q/\q<=j+k/\VS b s q 0 c wq/\w.grownBy wq (some b)) (fun wq=>s.size-placeOf b wq)
    case atStart=>exact⟨j,Nat.le_refl _,Nat.le_add_right _ _,dD.o,aH.o⟩
    clear dD aH d0 d1 d2 df;rename_i wr0 _ _ _;obtain⟨q,hjq,AZ,hrs,hgb⟩:=hrel;have d0:=hrs.c0;have d1:=hrs.c1;have df:=hrs.f1;have dD:=ae hrs;have aH:=ae hgb;have hns:=HN.o;clear hrs hgb
    by_cases hlt:q<j+k
    ·have oI:q<s.size:=by omega
     have hD:=HA.o q hjq oI hlt;have HK:Hd (j<=q/\q<j+k/\q<s.size):=⟨hjq,hlt,oI⟩;have hlt2:(q:Int)<(s.size:Int):=by omega
     have hw:IntKind.i64.wrap ((q:Int)+1)=((q+1:Nat):Int):=by rw[IntKind.wrap_i64];omega
     clear hlt AZ hns hjq;go_wp2;go_quiet (first|(go_at_call 220;exact Calls.quiet_of_same (TF _ _)));go_wp2;go_roundw
     case rel =>
      have:=HK.o;exact⟨q+1,by omega,by omega,(dD.o.drew _).set1 (q+1),aS (ay aH.o _) _ _⟩
     case measure =>
      have e1:=dD.o.place;have e2:=((dD.o.drew nq).set1 (q+1)).place;rw[e1];exact Nat.lt_of_le_of_lt (Nat.le_of_eq (congrArg (s.size - ·) e2)) (by have:=HK.o;omega)
    ·have HQ:Hd (q=j+k):=by show q=j+k;omega
     have sl2:=iJ.o q HQ.o;clear hlt AZ hns hjq;have hen:(∃oI:q<s.size,aX s[q]=false/\((s[q].toNat:Int) == 46)=true/\s.data.toList[q]?=some 46/\q<s.size)\/(∃oI:q<s.size,aX s[q]=false/\((s[q].toNat:Int) == 46)=false/\¬s.data.toList[q]?=some 46)\/(¬q<s.size/\decide ((q:Int)<(s.size:Int))=false/\¬s.data.toList[q]?=some 46):=by
      by_cases oI:q<s.size
      ·have hD:=HS.o q HQ.o oI
       cases q46:((s[q].toNat:Int) == 46) with
       | true=>exact .inl ⟨oI,hD,q46,by rw[lL s q oI];congr 1;exact UInt8.toNat_inj.1 (by simp at q46;show s[q].toNat=46;omega),oI⟩
       | false=>exact .inr (.inl ⟨oI,hD,q46,by
         rw[lL s q oI];intro e;have:=Option.some.inj e;rw[this]at q46;exact absurd q46 (by decide)⟩)
      ·exact .inr (.inr ⟨oI,by simp;omega,by rw[List.getElem?_eq_none (by simp;omega)];simp⟩)
     rcases hen with⟨oI,hD,q46,hdt⟩|⟨oI,hD,q46,hdf⟩|⟨AZ,hd2,hdf⟩
     all_goals (
      first
       | (have Ep:Hd (s.data.toList[q]?=some 46/\q<s.size):=hdt
          clear hdt)
       | (have HDf:Hd (¬s.data.toList[q]?=some 46):=hdf
          clear hdf)
      first
       | (have hlt2:(q:Int)<(s.size:Int):=by omega
          go_wp2;go_quiet (first|(go_at_call 220;exact Calls.quiet_of_same (TF _ _))))
       | (go_wp2
          go_quiet (fail))
      obtain⟨W,hW⟩:=zN (wr.drewN nq);have e0:W.cell? ⟨b,0,none⟩=some (.string s):=by rw[<-hW];exact d0
      have e1:W.cell? ⟨b,1,none⟩=some (.int .i64 (q:Int)):=by rw[<-hW];exact d1
      have ef:W.frozen? ⟨b,1,none⟩=false:=by rw[<-hW];exact df
      have HW:Hd (VS b s q 0 c W/\w.grownBy W (some b)):=by
       show VS b s q 0 c W/\w.grownBy W (some b);rw[<-hW];exact⟨dD.o.drew _,ay aH.o _⟩
      rw[hW];clear hW d0 d1 df dD aH;go_wp2;go_quiet (fail);obtain⟨U,hU⟩:=zN (W.drewN nq);have g0:U.cell? ⟨b,0,none⟩=some (.string s):=by rw[<-hU];exact e0
      have g1:U.cell? ⟨b,1,none⟩=some (.int .i64 (q:Int)):=by rw[<-hU];exact e1
      have gf:U.frozen? ⟨b,1,none⟩=false:=by rw[<-hU];exact ef
      have HU:Hd (VS b s q 0 c U/\w.grownBy U (some b)):=by
       show VS b s q 0 c U/\w.grownBy U (some b);rw[<-hU];exact⟨HW.o.1.drew _,ay HW.o.2 _⟩
      rw[hU];clear hU e0 e1 ef HW sl2;have jD:X.size=k:=by
       have h1:=WI.o;rw[<-Oc.o]at h1;simpa using h1
      obtain⟨ad,had⟩:=zN (X.data.toList.all aN);have CD:Hd (∀w,Calls prog 221 #[.string X] w fun e w'=>e=.returned (.bool ad)/\w'=w):=fun w=>by rw[<-had];exact abb X w (by have:=HN.o;omega)
      have qh:Hd (kL st T=(st && (ad && (decide (1<k) && decide (T[0]?=some 48))))):=by
       show _=_;rw[<-had,Oc.o];unfold kL;rw[WI.o]
      clear had;have Oe:Hd (i<=j/\j<=q/\q<=s.size):=by
       have a1:=HJ.o;have a2:=HQ.o;have a3:=HN.o;exact⟨a1.1,by omega,by omega⟩
      have hw:IntKind.i64.wrap ((q:Int)+1)=((q+1:Nat):Int):=by rw[IntKind.wrap_i64];have:=Oe.o;omega
      obtain⟨QD,WJ⟩:∃Q:Prop,(aQ st s.data.toList (q+1)=R)=Q:=⟨_,rfl⟩;have WL:=ae WJ;have HZ:Hd (¬k=0->(if kL st T=true then(2,j) else if s.data.toList[j+k]?=some 46 then aQ st s.data.toList (j+k+1) else(0,j+k))=R):=fun hk0=>by
       have:=HST.o;rw[if_neg hk0]at this;exact this
      have HG:Hd (¬k=0->kL st T=false->(s.data.toList[q]?=some 46->QD)/\(¬s.data.toList[q]?=some 46->R=(0,q))):=fun hk0 h=>by
       have:=HZ.o hk0;rw[if_neg (by rw[h];decide),<-HQ.o]at this;exact⟨fun h2=>WL.o.mp (by rw[if_pos h2]at this;exact this),fun h2=>by rw[if_neg h2]at this;exact this.symm⟩
      have hbw:(k=0/\(st=false\/(st=true/\ad=false)\/(st=true/\ad=true)))\/(¬k=0/\∃IM:0<X.size,(kL st T=false/\(st=false\/(st=true/\ad=false)\/(st=true/\ad=true/\decide ((1:Int)<(X.size:Int))=false)\/(st=true/\ad=true/\decide ((1:Int)<(X.size:Int))=true/\((X[0].toNat:Int) == 48)=false)))\/(kL st T=true/\st=true/\ad=true/\decide ((1:Int)<(X.size:Int))=true/\((X[0].toNat:Int) == 48)=true)):=by
       by_cases hk0:k=0
       ·exact .inl ⟨hk0,by cases st;exact .inl rfl;cases ad;exact .inr (.inl ⟨rfl,rfl⟩);exact .inr (.inr ⟨rfl,rfl⟩)⟩
       ·have IM:0<X.size:=by omega
        have hT0:T[0]?=some X[0]:=by rw[<-Oc.o,lL X 0 IM]
        have hbz:=qh.o;rw[hT0,<-jD]at hbz;refine .inr ⟨hk0,IM,?_⟩
        cases st with
        | false=>exact .inl ⟨hbz,.inl rfl⟩
        | true =>
         cases ad with
         | false=>exact .inl ⟨hbz,.inr (.inl ⟨rfl,rfl⟩)⟩
         | true =>
          cases m2:decide ((1:Int)<(X.size:Int)) with
          | false=>exact .inl ⟨by rw[hbz,show decide (1<X.size)=false from by have:=of_decide_eq_false m2;simp;omega];rfl,.inr (.inr (.inl ⟨rfl,rfl,rfl⟩))⟩
          | true =>
           have h1:=of_decide_eq_true m2
           cases m3:((X[0].toNat:Int) == 48) with
           | false =>
            refine .inl ⟨?_,.inr (.inr (.inr ⟨rfl,rfl,rfl,rfl⟩))⟩;rw[hbz,show decide (some X[0]=some (48:UInt8))=false from by
             simp only[decide_eq_false_iff_not];intro e;have:=Option.some.inj e;rw[this]at m3;exact absurd m3 (by decide)]
            simp
           | true =>
            refine .inr ⟨?_,rfl,rfl,rfl,rfl⟩;rw[hbz,show decide (1<X.size)=true from by simp;omega,show X[0]=48 from UInt8.toNat_inj.1 (by simp at m3;show X[0].toNat=48;omega)];decide
      clear WJ
      rcases hbw with⟨hk0,rfl|⟨rfl,rfl⟩|⟨rfl,rfl⟩⟩|⟨hk0,IM,⟨hb0,rfl|⟨rfl,rfl⟩|⟨rfl,rfl,m2⟩|⟨rfl,rfl,m2,m3⟩⟩|⟨hb1,rfl,rfl,m2,m3⟩⟩
      all_goals (
       first
        | (have m1:=GY (jD.trans hk0)
           have m2:decide ((1:Int)<(X.size:Int))=false:=by simp;omega
           have xQ:Hd (R=(2,q)):=by
            show R=(2,q);rw[HQ.o,<-HST.o,if_pos hk0,hk0];rfl
           clear hk0 jD qh HST HZ HG;go_wp2_with (first|(go_at_call 221;refine(CD.o _).mono ?_;rintro e w' ⟨rfl,rfl⟩)|(go_at_call 166;refine(vG b s q c 2 q _ HU.o.1).mono ?_))
           all_goals (
            rintro e w1 ⟨rfl,hr,hg⟩;have hg2:=ai HU.o.2 hg;obtain⟨EE,cc,hr2,hv,hv2⟩:∃(EE:Int) (cc:Nat),VS b s q EE cc w1/\(EE=0->(s.data.toList[q]?=some 46->QD)/\(¬s.data.toList[q]?=some 46->R=(0,q)))/\(EE≠0->R=(EE,cc)):=⟨2,q,hr,fun h=>absurd h (by decide),fun _=>xQ.o⟩;clear hr hg g0 g1 gf HU xQ))
        | (have m1:=GZ (fun h=>hk0 (jD.symm.trans h))
           first
           | (have xQ:Hd (R=(2,j)):=by
               show R=(2,j);rw[<-HZ.o hk0,if_pos hb1]
              clear hb1 hk0 jD qh HST HZ HG;go_wp2_with (first|(go_at_call 221;refine(CD.o _).mono ?_;rintro e w' ⟨rfl,rfl⟩)|(go_at_call 166;refine(vG b s q c 2 j _ HU.o.1).mono ?_))
              all_goals (
               rintro e w1 ⟨rfl,hr,hg⟩;have hg2:=ai HU.o.2 hg;obtain⟨EE,cc,hr2,hv,hv2⟩:∃(EE:Int) (cc:Nat),VS b s q EE cc w1/\(EE=0->(s.data.toList[q]?=some 46->QD)/\(¬s.data.toList[q]?=some 46->R=(0,q)))/\(EE≠0->R=(EE,cc)):=⟨2,j,hr,fun h=>absurd h (by decide),fun _=>xQ.o⟩;clear hr hg g0 g1 gf HU xQ))
           | (have xQ:Hd ((s.data.toList[q]?=some 46->QD)/\(¬s.data.toList[q]?=some 46->R=(0,q))):=HG.o hk0 hb0
              clear hb0 hk0 jD qh HST HZ HG;go_wp2_with (go_at_call 221;refine(CD.o _).mono ?_;rintro e w' ⟨rfl,hx⟩;obtain rfl:=hx.symm)
              all_goals (
               obtain⟨EE,cc,hr2,hv,hv2⟩:∃(EE:Int) (cc:Nat),VS b s q EE cc U/\(EE=0->(s.data.toList[q]?=some 46->QD)/\(¬s.data.toList[q]?=some 46->R=(0,q)))/\(EE≠0->R=(EE,cc)):=⟨0,c,HU.o.1,fun _=>xQ.o,fun h=>absurd rfl h⟩;have hg2:=HU.o.2;obtain⟨w1,hw1⟩:=zN U;rw[hw1]at hr2 hg2 ⊢;clear hw1 g0 g1 gf HU xQ)))
       all_goals (
        have y0:=hr2.c0;have y1:=hr2.c1;have yf:=hr2.f1;have HY:Hd (VS b s q EE cc w1/\w.grownBy w1 (some b)):=⟨hr2,hg2⟩;have HV:=ae hv;have rW:=ae hv2;clear hr2 hg2 hv hv2
        try go_wp2
        all_goals (
         go_quiet (fail);go_wp2;go_roundw
         case rel =>
          have:=Oe.o
          first
           | exact⟨true,q+1,cc,EE,rfl,by omega,by have:=Ep.o.2;omega,(HY.o.1.drew _).set1 (q+1),aS (ay HY.o.2 _) _ _,fun h=>⟨fun _=>WL.o.mpr ((HV.o h).1 Ep.o.1),fun h=>absurd h (by decide)⟩,rW.o⟩
           | exact⟨false,q,cc,EE,rfl,by omega,by omega,HY.o.1.drew _,ay HY.o.2 _,fun h=>⟨fun h=>absurd h (by decide),fun _=>(HV.o h).2 HDf.o⟩,rW.o⟩
         case measure =>
          rw[lS.o];have:=Oe.o
          first
           | (have:=Ep.o.2
              refine Nat.lt_of_le_of_lt (Nat.le_of_eq (congrArg (fun x=>2*(s.size-x)+1) ((HY.o.1.drew nq).set1 (q+1)).place)) ?_;show 2*(s.size-(q+1))+1<2*(s.size-j)+1;omega)
           | (refine Nat.lt_of_le_of_lt (Nat.le_of_eq (congrArg (fun x=>2*(s.size-x)+0) (HY.o.1.drew nq).place)) ?_
              show 2*(s.size-q)+0<2*(s.size-j)+1;omega)))))
open Go.RowKit
def VR(v:Nat)(y1 y2 y3:Int)(x4 x5:ByteArray)(w:World):Prop:=w.heap[v]?=some (.cells #[.int .i64 y1,.int .i64 y2,.int .i64 y3,.string x4,.string x5] 182 (0,0))
theorem VR.cells{v:Nat}{y1 y2 y3:Int}{x4 x5:ByteArray}{w:World}(h:VR v y1 y2 y3 x4 x5 w):w.cell? ⟨v,0,none⟩=some (.int .i64 y1)/\w.cell? ⟨v,1,none⟩=some (.int .i64 y2)/\w.cell? ⟨v,2,none⟩=some (.int .i64 y3)/\w.cell? ⟨v,3,none⟩=some (.string x4)/\w.cell? ⟨v,4,none⟩=some (.string x5) :=
 ⟨by rw[ag h];rfl,by rw[ag h];rfl,by rw[ag h];rfl,by rw[ag h];rfl,by rw[ag h];rfl⟩
theorem VR.f{v:Nat}{y1 y2 y3:Int}{x4 x5:ByteArray}{w:World}(h:VR v y1 y2 y3 x4 x5 w)(o:Nat):w.frozen? ⟨v,o,none⟩=false:=Lib.frozen_of_heap h o
theorem VR.grow{b v:Nat}{y1 y2 y3:Int}{x4 x5:ByteArray}{w w':World}(h:VR v y1 y2 y3 x4 x5 w)(hg:w.grownBy w' (some b))(hn:v≠b):VR v y1 y2 y3 x4 x5 w':=by
 unfold VR at h ⊢;rw[hg.block v ((dO h)) (by simpa using hn)];exact h
theorem VR.set3{v:Nat}{y1 y2 y3:Int}{x4 x5:ByteArray}{w:World}(h:VR v y1 y2 y3 x4 x5 w)(z:ByteArray):VR v y1 y2 y3 z x5 (w.setCell ⟨v,3,none⟩ (.string z)):=by
 unfold VR at h ⊢;simp[World.setCell,Array.getElem?_modify,h]
theorem VR.set4{v:Nat}{y1 y2 y3:Int}{x4 x5:ByteArray}{w:World}(h:VR v y1 y2 y3 x4 x5 w)(z:ByteArray):VR v y1 y2 y3 x4 z (w.setCell ⟨v,4,none⟩ (.string z)):=by
 unfold VR at h ⊢;simp[World.setCell,Array.getElem?_modify,h]
theorem VR.other{v u:Nat}{y1 y2 y3:Int}{x4 x5:ByteArray}{w:World}(h:VR v y1 y2 y3 x4 x5 w)(hn:v≠u)(o:Nat)(x:Value):VR v y1 y2 y3 x4 x5 (w.setCell ⟨u,o,none⟩ x):=by
 unfold VR at h ⊢;rw[<-h];exact heap_setCell_other w _ v x hn
theorem xR{w:World}{A:Nat}{z1 z2 z3:Int}{z4 z5:ByteArray}(h:VR A z1 z2 z3 z4 z5 w)(y1 y2 y3:Int)(x4 x5:ByteArray):VR A y1 y2 y3 x4 x5 (uZ w A y1 y2 y3 x4 x5):=by
 unfold VR at h ⊢;unfold uZ;simp[World.setCell,Array.getElem?_modify,h]
theorem VS.other{b v:Nat}{s:ByteArray}{i:Nat}{E:Int}{a:Nat}{w:World}(h:VS b s i E a w)(hn:b≠v)(o:Nat)(x:Value):VS b s i E a (w.setCell ⟨v,o,none⟩ x):=by
 unfold VS at h ⊢;rw[<-h];exact heap_setCell_other w _ b x hn
theorem G2.set1{b v:Nat}{w w1:World}(h:G2 b v w w1)(o:Nat)(x:Value):G2 b v w (w1.setCell ⟨b,o,none⟩ x) :=
 ⟨h.os,h.tape,h.output,by simpa [World.setCell] using h.size,fun k hk h1 h2=>by rw[<-h.block k hk h1 h2];exact heap_setCell_other w1 _ k x (fun e=>h1 e)⟩
def aei(b v:Nat)(s:ByteArray)(i:Nat)(y1 y2 y3:Int)(w w':World):Prop :=
 ∃(j:Nat) (E:Int) (c:Nat) (P B:ByteArray),VS b s j E c w'/\VR v y1 y2 y3 P B w'/\G2 b v w w'/\E=(dn s.data.toList i).1/\(E=0->P=⟨(dn s.data.toList i).2.2.1.toArray⟩/\B=⟨(dn s.data.toList i).2.2.2.toArray⟩/\j=(dn s.data.toList i).2.1/\j<=s.size)/\(E≠0->c=(dn s.data.toList i).2.1)
theorem Et(b v:Nat)(s:ByteArray)(i:Nat)(E:Int)(hE:E≠0)(a:Nat)(w:World)(h:VS b s i E a w) :
  Calls prog 165 #[.pointer (some ⟨b,0,none⟩),.pointer (some ⟨v,0,none⟩)] w fun e w'=>e=.returned (.tuple #[])/\∃n,w'=w.drewN n:=by
 have h0:=h.c0;have h1:=h.c1;have h2:=h.c2;have HR:=ae h;have hn:(E == 0)=false:=by simpa using hE
 clear h hE;go_enter func165,ntmps165;go_wp2;go_quiet (fail);go_wp2;obtain⟨W,hW⟩:=zN (w.drewN nq);have HW:=ae hW.symm;have e0:W.cell? ⟨b,0,none⟩=some (.string s):=by rw[<-hW];exact h0
 have e1:W.cell? ⟨b,1,none⟩=some (.int .i64 (i:Int)):=by rw[<-hW];exact h1
 have e2:W.cell? ⟨b,2,none⟩=some (.int .i64 E):=by rw[<-hW];exact h2
 rw[hW];clear hW h0 h1 h2;go_quiet (fail);go_wp2
 go_end0
 exact⟨rfl,_,by rw[HW.o,World.drewN_drewN]⟩
theorem WM(s:ByteArray)(j:Nat)(c:UInt8)(z:Int)(hz:(c.toNat:Int)=z):(∃h:j<s.size,((s[j].toNat:Int) == z)=true/\s.data.toList[j]?=some c)\/(∃h:j<s.size,((s[j].toNat:Int) == z)=false/\¬s.data.toList[j]?=some c)\/(¬j<s.size/\decide ((j:Int)<(s.size:Int))=false/\¬s.data.toList[j]?=some c):=by
 by_cases h:j<s.size
 ·rw[lL s j h]
  cases hc:((s[j].toNat:Int) == z) with
  | true=>exact .inl ⟨h,hc,by rw[show s[j]=c from UInt8.toNat_inj.1 (by have:=eq_of_beq hc;omega)]⟩
  | false =>
   refine .inr (.inl ⟨h,hc,fun e=>?_⟩);rw[Option.some.inj e,hz]at hc;simp at hc
 ·exact .inr (.inr ⟨h,by simp;omega,by rw[List.getElem?_eq_none (by simp;omega)];simp⟩)
theorem aej(b v:Nat)(s:ByteArray)(i:Nat)(a:Nat)(y1 y2 y3:Int)(w:World)(hi:i<=s.size)(h:VS b s i 0 a w)(hv:VR v y1 y2 y3 ⟨#[]⟩ ⟨#[]⟩ w)(hbv:b≠v)(hs:s.size<2 ^ 62) :
  Calls prog 165 #[.pointer (some ⟨b,0,none⟩),.pointer (some ⟨v,0,none⟩)] w fun e w'=>e=.returned (.tuple #[])/\aei b v s i y1 y2 y3 w w':=by
 have kQ:Hd (s.data.toList.length=s.size):=by show s.data.toList.length=s.size;simp
 have PP:=ae (fun st i a w (hi:i<=s.size) (h:VS b s i 0 a w)=>aeh st b s i a w hi h hs);have HI:=ae h;have HVI:=ae hv;have dw:=ae hbv;have jO:=ae hi;have HS:=ae hs;have GET:Hd (∀i,(h:i<s.size)->s.data.toList[i]?=some s[i]):=fun i h=>lL s i h
 have g0:=h.c0;have g1:=h.c1;have g2:=h.c2;clear h hv hbv hi hs;go_enter func165,ntmps165
 rcases WM s i 45 45 rfl with⟨hlt1,hc1,ho1⟩|⟨hlt1,hc1,hn1⟩|⟨hlt1,hc1,hn1⟩
 all_goals (
  first
   | (have hl2:((i:Nat):Int)<(s.size:Int):=by omega)
   | skip
  go_wp2;go_quiet (fail);obtain⟨U1,hU⟩:=zN ((w).drewN nq);have lY:Hd (VS b s (i) 0 a U1):=by show VS _ _ _ _ _ U1;rw[<-hU];exact HI.o.drew _
  have WN:Hd (VR v y1 y2 y3 ⟨#[]⟩ ⟨#[]⟩ U1):=by show VR _ _ _ _ _ _ U1;rw[<-hU];exact HVI.o
  have WO:Hd (G2 b v w U1):=by show G2 b v w U1;rw[<-hU];exact(G2.refl b v w).drew _
  try rw[hU]
  clear hU g0 g1 g2
  first
   | (have Og:Hd (bu 45 true s.data.toList (i)=((aQ true s.data.toList (i+1)).1,(aQ true s.data.toList (i+1)).2,jE true s.data.toList (i+1))):=Ai (st:=true) ho1
      have WP:=ae hlt1;clear hc1 ho1;have k0:=lY.o.c0;have k1:=lY.o.c1;have k2:=lY.o.c2;have kf:=lY.o.f1;have hw:IntKind.i64.wrap ((i:Int)+1)=((i+1:Nat):Int):=by rw[IntKind.wrap_i64];have:=HS.o;have:=WP.o;omega
      go_wp2_with (first|(go_at_call 204;refine(PP.o true (i+1) _ _ WP.o (lY.o.set1 (i+1))).mono ?_));rintro e u1 ⟨V1,j1,E1,c1,rfl,hvs,hg,hE,hok,herr⟩;have jF:=ae hvs;have IP:=ae ((WN.o.other (Ne.symm dw.o) _ _).grow hg (Ne.symm dw.o));have WQ:=ae ((WO.o.set1 _ _).step hg);have lZ:Hd (E1=(aQ true s.data.toList (i+1)).1/\(E1=0->V1=⟨(aj s.data.toList (i+1) (j1-(i+1))).toArray⟩/\j1=(aQ true s.data.toList (i+1)).2/\j1<=s.size)/\(E1≠0->c1=(aQ true s.data.toList (i+1)).2)):=⟨hE,hok,herr⟩;have kv:=IP.o.f;obtain⟨q0,q1,q2,q3,q4⟩:=IP.o.cells;clear hvs hg hE hok herr k0 k1 k2 kf hw;obtain⟨W1,hW⟩:=zN (u1.setCell ⟨v,3,none⟩ (.string V1));have HW1:Hd (VS b s j1 E1 c1 W1):=by show VS _ _ _ _ _ W1;rw[<-hW];exact jF.o.other dw.o _ _
      have Eu:Hd (VR v y1 y2 y3 V1 ⟨#[]⟩ W1):=by show VR _ _ _ _ _ _ W1;rw[<-hW];exact IP.o.set3 _
      have Oh:Hd (G2 b v w W1):=by show G2 b v w W1;rw[<-hW];exact WQ.o.set _ _
      go_wp2
      try rw[hW]
      clear hW kv q0 q1 q2 q3 q4;obtain⟨bz,hz⟩:=zN ((E1 == 0))
      rcases bz with - | -
      ·have HZ:Hd (¬E1=0):=by show ¬E1=0;simpa using hz
       have g0:=HW1.o.c0;have g1:=HW1.o.c1;have g2:=HW1.o.c2;go_quiet (fail);go_wp2
       go_end0
       have h9:¬(aQ true s.data.toList (i+1)).1=0:=fun e=>HZ.o (lZ.o.1.trans e)
       refine⟨rfl,j1,E1,c1,V1,⟨#[]⟩,HW1.o.drew _,Eu.o,Oh.o.drew _,?_,fun h=>absurd h HZ.o,fun _=>?_⟩
       ·unfold dn;rw[Og.o];simp only[if_neg h9];exact lZ.o.1
       ·unfold dn;rw[Og.o];simp only[if_neg h9];exact lZ.o.2.2 HZ.o
      have h0:E1=0:=by simpa using hz
      subst h0;clear hz;obtain⟨hk1,hk2,hk3⟩:=lZ.o.2.1 rfl;obtain⟨jx,cx,VX,LX,hx,IQ,hox,hpx,Oi⟩:∃jx cx VX LX,VS b s jx 0 cx W1/\VR v y1 y2 y3 VX ⟨#[]⟩ W1/\bu 45 true s.data.toList i=(0,jx,LX)/\VX=⟨LX.toArray⟩/\jx<=s.size:=⟨j1,c1,V1,aj s.data.toList (i+1) (j1-(i+1)),HW1.o,Eu.o,by
       have h9:=lZ.o.1.symm;rw[Og.o,h9,hk2];unfold jE;rw[if_pos h9],hk1,hk3⟩
      clear hk1 hk2 hk3 lZ HW1 Eu jF IP WQ)
   | (obtain⟨jx,cx,VX,LX,hx,IQ,hox,hpx,Oi⟩:∃jx cx VX LX,VS b s jx 0 cx U1/\VR v y1 y2 y3 VX ⟨#[]⟩ U1/\bu 45 true s.data.toList i=(0,jx,LX)/\VX=⟨LX.toArray⟩/\jx<=s.size:=⟨i,a,⟨#[]⟩,[],lY.o,WN.o,Aj hn1,rfl,jO.o⟩
      obtain⟨W1,hW⟩:=zN U1;have Oh:=ae (hW ▸ WO.o);rw[hW]at hx IQ ⊢;clear hW hc1 hn1)
  have HW1:=ae hx;have Eu:=ae IQ;have ou:=ae hox;have mP:=ae hpx;have rY:=ae Oi;have g0:=HW1.o.c0;have g1:=HW1.o.c1;have g2:=HW1.o.c2;clear hx IQ hox hpx Oi
  try clear hl2
  clear hlt1
  rcases WM s jx 43 43 rfl with⟨hlt3,hc3,ho3⟩|⟨hlt3,hc3,hn3⟩|⟨hlt3,hc3,hn3⟩
  all_goals (
   first
    | (have hl2:((jx:Nat):Int)<(s.size:Int):=by omega)
    | skip
   try go_wp2
   go_quiet (fail);obtain⟨U3,hU⟩:=zN ((W1).drewN nq);have mQ:Hd (VS b s jx 0 cx U3):=by show VS _ _ _ _ _ U3;rw[<-hU];exact HW1.o.drew _
   have WR:Hd (VR v y1 y2 y3 VX ⟨#[]⟩ U3):=by show VR _ _ _ _ _ _ U3;rw[<-hU];exact Eu.o
   have WS:Hd (G2 b v w U3):=by show G2 b v w U3;rw[<-hU];exact Oh.o.drew _
   have k0:=mQ.o.c0;have k1:=mQ.o.c1;have k2:=mQ.o.c2;have kf:=mQ.o.f1
   try rw[hU]
   clear hU g0 g1 g2
   first
    | (have mF:Hd (bu 43 false s.data.toList jx=((aQ false s.data.toList (jx+1)).1,(aQ false s.data.toList (jx+1)).2,jE false s.data.toList (jx+1))):=Ai (st:=false) ho3
       have WU:=ae hlt3;clear hc3 ho3;have hw:IntKind.i64.wrap (((jx:Nat):Int)+1)=((jx+1:Nat):Int):=by rw[IntKind.wrap_i64];have:=HS.o;have:=WU.o;omega
       go_wp2_with (first|(go_at_call 204;refine(PP.o false (jx+1) _ _ WU.o (mQ.o.set1 (jx+1))).mono ?_));rintro e u3 ⟨V3,j3,E3,c3,rfl,hvs,hg,hE,hok,herr⟩;have HF3:=ae hvs;have Oj:=ae ((WR.o.other (Ne.symm dw.o) _ _).grow hg (Ne.symm dw.o));have aek:=ae ((WS.o.set1 _ _).step hg);have jW:Hd (E3=(aQ false s.data.toList (jx+1)).1/\(E3=0->V3=⟨(aj s.data.toList (jx+1) (j3-(jx+1))).toArray⟩/\j3=(aQ false s.data.toList (jx+1)).2/\j3<=s.size)/\(E3≠0->c3=(aQ false s.data.toList (jx+1)).2)):=⟨hE,hok,herr⟩;have kv:=Oj.o.f;obtain⟨q0,q1,q2,q3,q4⟩:=Oj.o.cells;clear hvs hg hE hok herr k0 k1 k2 kf hw;go_wp2
       go_end0
       refine⟨rfl,j3,E3,c3,VX,V3,HF3.o.other dw.o _ _,Oj.o.set4 _,aek.o.set _ _,?_,?_,?_⟩
       ·rw[jW.o.1];unfold dn;rw[ou.o];simp only[if_true];rw[mF.o];simp only;split<;>simp_all
       ·intro h0;obtain⟨e1,e2,e3⟩:=jW.o.2.1 h0;have h9:=jW.o.1.symm.trans h0;have hp:jE false s.data.toList (jx+1)=aj s.data.toList (jx+1) ((aQ false s.data.toList (jx+1)).2-(jx+1)):=by unfold jE;rw[if_pos h9]
        unfold dn;rw[ou.o];simp only[if_true];rw[mF.o];simp only[if_pos h9];exact⟨mP.o,by rw[e1,e2,hp],e2,e3⟩
       ·intro h0;have h9:¬(aQ false s.data.toList (jx+1)).1=0:=fun e=>h0 (jW.o.1.trans e)
        unfold dn;rw[ou.o];simp only[if_true];rw[mF.o];simp only[if_neg h9];exact jW.o.2.2 h0)
    | (have mF:Hd (bu 43 false s.data.toList jx=(0,jx,[])):=Aj hn3
       clear hc3 hn3;go_wp2
       go_end0
       refine⟨rfl,jx,0,_,VX,⟨#[]⟩,mQ.o,WR.o,WS.o,?_,?_,fun h=>absurd rfl h⟩
       ·unfold dn;rw[ou.o];simp only[if_true];rw[mF.o];simp only[if_true]
       ·intro _;unfold dn;rw[ou.o];simp only[if_true];rw[mF.o];simp only[if_true];exact⟨mP.o,by first|trivial|rfl,by first|trivial|rfl,rY.o⟩)))
open Go.RowKit
structure RV(w:World)(A:Nat)(s:ByteArray)(j:Nat)(E:Int)(c:Nat)(y1 y2 y3:Int)(P B:ByteArray)(u:World):Prop where
 vs:VS (A+1) s j E c u
 vr:VR (A+2) y1 y2 y3 P B u
 vz:VR A 0 0 0 ⟨#[]⟩ ⟨#[]⟩ u
 gb:w.grownBy u none
 le:w.heap.size<=A
theorem RV.drew{w:World}{A:Nat}{s:ByteArray}{j:Nat}{E:Int}{c:Nat}{y1 y2 y3:Int}{P B:ByteArray}{u:World}(h:RV w A s j E c y1 y2 y3 P B u)(n:Nat):RV w A s j E c y1 y2 y3 P B (u.drewN n) :=
 ⟨h.vs.drew n,h.vr,h.vz,ay h.gb n,h.le⟩
theorem RV.call{w:World}{A:Nat}{s:ByteArray}{j:Nat}{E:Int}{c:Nat}{y1 y2 y3:Int}{P B:ByteArray}{u u':World}(h:RV w A s j E c y1 y2 y3 P B u)(hg:u.grownBy u' (some (A+1))){j':Nat}{E':Int}{c':Nat}(hv:VS (A+1) s j' E' c' u'):RV w A s j' E' c' y1 y2 y3 P B u' :=
 ⟨hv,h.vr.grow hg (by omega),h.vz.grow hg (by omega),⟨hg.os.trans h.gb.os,hg.tape.trans h.gb.tape,hg.output.trans h.gb.output,Nat.le_trans h.gb.size hg.size,fun k hk _=>(hg.block k (Nat.lt_of_lt_of_le hk h.gb.size) (by have:=h.le;simp;omega)).trans (h.gb.block k hk (by simp))⟩,h.le⟩
theorem RV.two{w:World}{A:Nat}{s:ByteArray}{j:Nat}{E:Int}{c:Nat}{y1 y2 y3:Int}{P B:ByteArray}{u u':World}(h:RV w A s j E c y1 y2 y3 P B u)(hg:G2 (A+1) (A+2) u u'){j':Nat}{E':Int}{c':Nat}{P' B':ByteArray}(hv:VS (A+1) s j' E' c' u')(hr:VR (A+2) y1 y2 y3 P' B' u'):RV w A s j' E' c' y1 y2 y3 P' B' u' :=
 ⟨hv,hr,by have:=h.vz;unfold VR at this ⊢;rw[hg.block A ((dO this)) (by omega) (by omega)];exact this,⟨hg.os.trans h.gb.os,hg.tape.trans h.gb.tape,hg.output.trans h.gb.output,Nat.le_trans h.gb.size hg.size,fun k hk _=>(hg.block k (Nat.lt_of_lt_of_le hk h.gb.size) (by have:=h.le;omega) (by have:=h.le;omega)).trans (h.gb.block k hk (by simp))⟩,h.le⟩
theorem VR.set0{v:Nat}{y1 y2 y3:Int}{x4 x5:ByteArray}{w:World}(h:VR v y1 y2 y3 x4 x5 w)(z:Int):VR v z y2 y3 x4 x5 (w.setCell ⟨v,0,none⟩ (.int .i64 z)):=by
 unfold VR at h ⊢;simp[World.setCell,Array.getElem?_modify,h]
theorem VR.set1{v:Nat}{y1 y2 y3:Int}{x4 x5:ByteArray}{w:World}(h:VR v y1 y2 y3 x4 x5 w)(z:Int):VR v y1 z y3 x4 x5 (w.setCell ⟨v,1,none⟩ (.int .i64 z)):=by
 unfold VR at h ⊢;simp[World.setCell,Array.getElem?_modify,h]
theorem VR.set2{v:Nat}{y1 y2 y3:Int}{x4 x5:ByteArray}{w:World}(h:VR v y1 y2 y3 x4 x5 w)(z:Int):VR v y1 y2 z x4 x5 (w.setCell ⟨v,2,none⟩ (.int .i64 z)):=by
 unfold VR at h ⊢;simp[World.setCell,Array.getElem?_modify,h]
theorem RV.put0{w:World}{A:Nat}{s:ByteArray}{j:Nat}{E:Int}{c:Nat}{y1 y2 y3:Int}{P B:ByteArray}{u:World}(h:RV w A s j E c y1 y2 y3 P B u)(x:Int):RV w A s j E c x y2 y3 P B (u.setCell ⟨A+2,0,none⟩ (.int .i64 x)) :=
 ⟨h.vs.other (by omega) _ _,h.vr.set0 x,h.vz.other (by omega) _ _,xg h.gb (by have:=h.le;omega) _ _,h.le⟩
theorem RV.put1{w:World}{A:Nat}{s:ByteArray}{j:Nat}{E:Int}{c:Nat}{y1 y2 y3:Int}{P B:ByteArray}{u:World}(h:RV w A s j E c y1 y2 y3 P B u)(x:Int):RV w A s j E c y1 x y3 P B (u.setCell ⟨A+2,1,none⟩ (.int .i64 x)) :=
 ⟨h.vs.other (by omega) _ _,h.vr.set1 x,h.vz.other (by omega) _ _,xg h.gb (by have:=h.le;omega) _ _,h.le⟩
theorem RV.put2{w:World}{A:Nat}{s:ByteArray}{j:Nat}{E:Int}{c:Nat}{y1 y2 y3:Int}{P B:ByteArray}{u:World}(h:RV w A s j E c y1 y2 y3 P B u)(x:Int):RV w A s j E c y1 y2 x P B (u.setCell ⟨A+2,2,none⟩ (.int .i64 x)) :=
 ⟨h.vs.other (by omega) _ _,h.vr.set2 x,h.vz.other (by omega) _ _,xg h.gb (by have:=h.le;omega) _ _,h.le⟩
theorem RV.born(w:World)(s:ByteArray):RV w w.heap.size s 0 0 0 0 0 0 ⟨#[]⟩ ⟨#[]⟩ (((w.alloc (.cells #[.int .i64 0,.int .i64 0,.int .i64 0,.string ⟨#[]⟩,.string ⟨#[]⟩] 182)).alloc (.cells #[.string s,.int .i64 0,.int .i64 0,.int .i64 0] 237)).alloc (.cells #[.int .i64 0,.int .i64 0,.int .i64 0,.string ⟨#[]⟩,.string ⟨#[]⟩] 182)):=by
 refine⟨?_,?_,?_,bC (bC (bC (au w none) _) _) _,Nat.le_refl _⟩
 ·unfold VS;rw[Lib.alloc_old _ _ _ (by simp)];exact Io w _ _
 ·unfold VR;have:=Io (w.alloc (.cells #[.int .i64 0,.int .i64 0,.int .i64 0,.string ⟨#[]⟩,.string ⟨#[]⟩] 182)) (.cells #[.string s,.int .i64 0,.int .i64 0,.int .i64 0] 237) (.cells #[.int .i64 0,.int .i64 0,.int .i64 0,.string ⟨#[]⟩,.string ⟨#[]⟩] 182);simpa using this
 ·unfold VR;rw[Lib.alloc_old _ _ _ (by simp;omega),Lib.alloc_old _ _ _ (by simp)];exact heap_alloc_new w _
theorem ael(s:ByteArray)(w:World)(hs:s.size<2 ^ 62) :
  Calls prog 125 #[.string s] w fun e w'=>e=.returned (.tuple #[VE (jZ s.data.toList).2.2,.int .i64 (jZ s.data.toList).1,.int .i64 ((jZ s.data.toList).2.1:Nat)])/\w.grownBy w' none:=by
 by_cases h100:100<s.size
 ·have hp:jZ s.data.toList=(1,0,zeroV):=by unfold jZ;rw[if_pos (by simpa using h100)]
  rw[hp];clear hp;go_enter func125,ntmps125;go_wp2;exact bodyPost_ret (qm (p:=2) (u:=3) (r:=4) rfl _ _ w.heap.size _ _ (0,0) _ rfl (heap_alloc_new w _) underlying182 rfl (by kernel_rfl)) rfl ⟨rfl,bC (au w none) _⟩
 ·have hp:jZ s.data.toList=eu s.data.toList:=by unfold jZ;rw[if_neg (by simpa using h100)]
  rw[hp];clear hp;obtain⟨l,hl⟩:∃l,l=s.data.toList:=⟨_,rfl⟩;have HL:Hd (l=s.data.toList/\l.length=s.size):=⟨hl,by rw[hl];simp⟩;have CN:=ae (fun b i a w (hi:i<=s.size) (h:VS b s i 0 a w)=>adA b s i a w hi h hs);have MY:Hd (∀b i a w,l[i]?=some 46->VS b s i 0 a w->Calls prog 164 #[.pointer (some ⟨b,0,none⟩),.int .u8 46] w fun e w'=>e=.returned (.tuple #[])/\VS b s (i+1) 0 a w'/\w.grownBy w' (some b)):=fun b i a w hc h=>adx b s i 0 a 46 w (by rw[<-hl];exact hc) h hs
  have MN:Hd (∀b i a w,i<=s.size->¬l[i]?=some 46->VS b s i 0 a w->Calls prog 164 #[.pointer (some ⟨b,0,none⟩),.int .u8 46] w fun e w'=>e=.returned (.tuple #[])/\VS b s i 2 i w'/\w.grownBy w' (some b)):=fun b i a w hi hc h=>ady b s i a 46 w hi (by rw[<-hl];exact hc) h hs
  have CT:=ae (fun b v i a y1 y2 y3 w (hi:i<=s.size) (h1:VS b s i 0 a w) (h2:VR v y1 y2 y3 ⟨#[]⟩ ⟨#[]⟩ w) (h3:b≠v)=>aej b v s i a y1 y2 y3 w hi h1 h2 h3 hs);have HB:=ae (RV.born w s);have rV:=VD l;have hnr:=TZ l;obtain⟨R,hR⟩:=zN (dh l);obtain⟨X,hX⟩:=zN (eu l);rw[hR]at rV hnr;rw[hX]at rV;rw[<-hl,hX];have HV:=ae rV;have HR0:=ae hnr;have HS:=ae hs;clear hl rV hnr hR hX hs;go_enter func125,ntmps125;go_wp2_with (go_at_call 163;refine(CN.o _ 0 0 _ (Nat.zero_le _) HB.o.vs).mono ?_);rintro e u1 ⟨x1,j1,E1,c1,rfl,hvs,hg,hE,hok,herr⟩;obtain⟨A,hA⟩:=zN (w.heap.size);rw[hA]at HB hvs hg;rw[hA];have HA1:=ae (HB.o.call hg hvs);have lZ:Hd (E1=(rdNum l 0).1/\(E1=0->x1=(rdNum l 0).2.1/\j1=(rdNum l 0).2.2/\j1<=s.size)/\(E1≠0->c1=(rdNum l 0).2.2)):=by rw[HL.o.1];exact⟨hE,hok,herr⟩
  clear hA hvs hg hE hok herr HB;obtain⟨U1,Ol⟩:=zN (u1.setCell ⟨A+2,0,none⟩ (.int .i64 x1));have lY:Hd (RV w A s j1 E1 c1 x1 0 0 ⟨#[]⟩ ⟨#[]⟩ U1):=by show RV _ _ _ _ _ _ _ _ _ _ _ U1;rw[<-Ol];exact HA1.o.put0 x1
  obtain⟨q0,q1,q2,q3,q4⟩:=HA1.o.vr.cells;have qf:=HA1.o.vr.f;have f0:=lY.o.vs.c0;have f1:=lY.o.vs.c1;have f2:=lY.o.vs.c2;have f3:=lY.o.vs.c3
  cases hz1:(E1 == 0) with
  | false =>
   have HZ:Hd (E1≠0):=by show E1≠0;simpa using hz1
   have FIN:Hd (X=(E1,c1,zeroV)):=by
    show X=_;have h9:¬(rdNum l 0).1=0:=fun e=>HZ.o (lZ.o.1.trans e)
    have hr:=HR0.o;rw[if_neg h9,<-lZ.o.1,<-lZ.o.2.2 HZ.o]at hr;rw[HV.o,hr,if_neg HZ.o]
   go_wp2_with (go_at_call 165;refine(Et (A+1) (A+2) s j1 E1 HZ.o c1 _ lY.o.vs).mono ?_);rintro e t1 ⟨rfl,n,hn⟩;have HT:Hd (RV w A s j1 E1 c1 x1 0 0 ⟨#[]⟩ ⟨#[]⟩ t1):=by show RV _ _ _ _ _ _ _ _ _ _ _ t1;rw[hn];exact lY.o.drew n
   clear hn f0 f1 f2 f3;have f0:=HT.o.vs.c0;have f1:=HT.o.vs.c1;have f2:=HT.o.vs.c2;have f3:=HT.o.vs.c3;obtain⟨z0,z1,z2,z3,z4⟩:=HT.o.vz.cells;have zf:=HT.o.vz.f;go_wp2
   go_region
   go_wp2;refine bodyPost_ret (qm (p:=2) (u:=3) (r:=4) rfl _ _ A _ _ (0,0) _ rfl (xR HT.o.vz 0 0 0 ⟨#[]⟩ ⟨#[]⟩) underlying182 rfl (by kernel_rfl)) rfl ⟨?_,ay (tX HT.o.gb HT.o.le 0 0 0 ⟨#[]⟩ ⟨#[]⟩) 1⟩;rw[FIN.o];rfl
  | true =>
   have h0:E1=0:=by simpa using hz1
   subst h0;clear hz1;have rG:=ae ((lZ.o.2.1 rfl).2.2);have HR1:Hd (R=xh l j1 x1):=by
    show R=_;obtain⟨e1,e2,-⟩:=lZ.o.2.1 rfl;have hr:=HR0.o;rw[if_pos lZ.o.1.symm,<-e1,<-e2]at hr;exact hr
   clear lZ HR0
   cases hc1:decide (l[j1]?=some 46) with
   | false =>
    have hc':=of_decide_eq_false hc1;have HZ:Hd ((2:Int)≠0):=by show(2:Int)≠0;decide
    have FIN:Hd (X=(2,j1,zeroV)):=by
     show X=_;have hr:=HR1.o;unfold xh at hr;rw[if_neg hc']at hr;rw[HV.o,hr];rfl
    have CM:=ae (MN.o _ _ _ _ rG.o hc' lY.o.vs);clear hc1 hc';go_wp2_with (go_at_call 164;refine CM.o.mono ?_);rintro e v1 ⟨rfl,hvs,hg⟩;have HM:=ae (lY.o.call hg hvs);clear hvs hg f0 f1 f2 f3 q0 q1 q2 q3 q4 qf Ol;have f0:=HM.o.vs.c0;have f1:=HM.o.vs.c1;have f2:=HM.o.vs.c2;have f3:=HM.o.vs.c3;go_wp2_with (go_at_call 165;refine(Et (A+1) (A+2) s j1 2 HZ.o j1 _ HM.o.vs).mono ?_);rintro e t1 ⟨rfl,n,hn⟩;have HT:Hd (RV w A s j1 2 j1 x1 0 0 ⟨#[]⟩ ⟨#[]⟩ t1):=by show RV _ _ _ _ _ _ _ _ _ _ _ t1;rw[hn];exact HM.o.drew n
    clear hn f0 f1 f2 f3;have f0:=HT.o.vs.c0;have f1:=HT.o.vs.c1;have f2:=HT.o.vs.c2;have f3:=HT.o.vs.c3;obtain⟨z0,z1,z2,z3,z4⟩:=HT.o.vz.cells;have zf:=HT.o.vz.f;go_wp2
    go_region
    go_wp2;refine bodyPost_ret (qm (p:=2) (u:=3) (r:=4) rfl _ _ A _ _ (0,0) _ rfl (xR HT.o.vz 0 0 0 ⟨#[]⟩ ⟨#[]⟩) underlying182 rfl (by kernel_rfl)) rfl ⟨?_,ay (tX HT.o.gb HT.o.le 0 0 0 ⟨#[]⟩ ⟨#[]⟩) 1⟩;rw[FIN.o];rfl
   | true =>
    have hc':=of_decide_eq_true hc1;have HRn:Hd (R=if(rdNum l (j1+1)).1=0 then tY l (rdNum l (j1+1)).2.2 x1 (rdNum l (j1+1)).2.1 else((rdNum l (j1+1)).1,(rdNum l (j1+1)).2.2,0,0,0)):=by
     show R=_;have hr:=HR1.o;unfold xh at hr;rw[if_pos hc']at hr;exact hr
    have qo:Hd (j1+1<=s.size):=by have:=(List.getElem?_eq_some_iff.1 hc').1;rw[HL.o.2]at this;exact this
    have CM:=ae (MY.o _ _ _ _ hc' lY.o.vs);clear hc1 hc';go_wp2_with (go_at_call 164;refine CM.o.mono ?_);rintro e v2 ⟨rfl,hvs,hg⟩;have mM:=ae (lY.o.call hg hvs);clear hvs hg f0 f1 f2 f3 q0 q1 q2 q3 q4 qf Ol HR1 CM;have f0:=mM.o.vs.c0;have f1:=mM.o.vs.c1;have f2:=mM.o.vs.c2;have f3:=mM.o.vs.c3;go_wp2_with (go_at_call 163;refine(CN.o _ (j1+1) c1 _ qo.o mM.o.vs).mono ?_);rintro e u2 ⟨x2,j2,E2,c2,rfl,hvs,hg,hE,hok,herr⟩;have HA2:=ae (mM.o.call hg hvs);have iV:Hd (E2=(rdNum l (j1+1)).1/\(E2=0->x2=(rdNum l (j1+1)).2.1/\j2=(rdNum l (j1+1)).2.2/\j2<=s.size)/\(E2≠0->c2=(rdNum l (j1+1)).2.2)):=by rw[HL.o.1];exact⟨hE,hok,herr⟩
    clear hvs hg hE hok herr f0 f1 f2 f3;obtain⟨U2,Om⟩:=zN (u2.setCell ⟨A+2,1,none⟩ (.int .i64 x2));have ut:Hd (RV w A s j2 E2 c2 x1 x2 0 ⟨#[]⟩ ⟨#[]⟩ U2):=by show RV _ _ _ _ _ _ _ _ _ _ _ U2;rw[<-Om];exact HA2.o.put1 x2
    obtain⟨q0,q1,q2,q3,q4⟩:=HA2.o.vr.cells;have qf:=HA2.o.vr.f;have f0:=ut.o.vs.c0;have f1:=ut.o.vs.c1;have f2:=ut.o.vs.c2;have f3:=ut.o.vs.c3
    cases hz2:(E2 == 0) with
    | false =>
     have HZ:Hd (E2≠0):=by show E2≠0;simpa using hz2
     have FIN:Hd (X=(E2,c2,zeroV)):=by
      show X=_;have h9:¬(rdNum l (j1+1)).1=0:=fun e=>HZ.o (iV.o.1.trans e)
      have hr:=HRn.o;rw[if_neg h9,<-iV.o.1,<-iV.o.2.2 HZ.o]at hr;rw[HV.o,hr,if_neg HZ.o]
     go_wp2_with (go_at_call 165;refine(Et (A+1) (A+2) s j2 E2 HZ.o c2 _ ut.o.vs).mono ?_);rintro e t1 ⟨rfl,n,hn⟩;have HT:Hd (RV w A s j2 E2 c2 x1 x2 0 ⟨#[]⟩ ⟨#[]⟩ t1):=by show RV _ _ _ _ _ _ _ _ _ _ _ t1;rw[hn];exact ut.o.drew n
     clear hn f0 f1 f2 f3;have f0:=HT.o.vs.c0;have f1:=HT.o.vs.c1;have f2:=HT.o.vs.c2;have f3:=HT.o.vs.c3;obtain⟨z0,z1,z2,z3,z4⟩:=HT.o.vz.cells;have zf:=HT.o.vz.f;go_wp2
     go_region
     go_wp2;refine bodyPost_ret (qm (p:=2) (u:=3) (r:=4) rfl _ _ A _ _ (0,0) _ rfl (xR HT.o.vz 0 0 0 ⟨#[]⟩ ⟨#[]⟩) underlying182 rfl (by kernel_rfl)) rfl ⟨?_,ay (tX HT.o.gb HT.o.le 0 0 0 ⟨#[]⟩ ⟨#[]⟩) 1⟩;rw[FIN.o];rfl
    | true =>
     have h0:E2=0:=by simpa using hz2
     subst h0;clear hz2;have HJ2:=ae ((iV.o.2.1 rfl).2.2);have HR2:Hd (R=tY l j2 x1 x2):=by
      show R=_;obtain⟨e1,e2,-⟩:=iV.o.2.1 rfl;have hr:=HRn.o;rw[if_pos iV.o.1.symm,<-e1,<-e2]at hr;exact hr
     clear iV HRn
     cases hc2:decide (l[j2]?=some 46) with
     | false =>
      have hc':=of_decide_eq_false hc2;have HZ:Hd ((2:Int)≠0):=by show(2:Int)≠0;decide
      have FIN:Hd (X=(2,j2,zeroV)):=by
       show X=_;have hr:=HR2.o;unfold tY at hr;rw[if_neg hc']at hr;rw[HV.o,hr];rfl
      have CM:=ae (MN.o _ _ _ _ HJ2.o hc' ut.o.vs);clear hc2 hc';go_wp2_with (go_at_call 164;refine CM.o.mono ?_);rintro e v1 ⟨rfl,hvs,hg⟩;have HM:=ae (ut.o.call hg hvs);clear hvs hg f0 f1 f2 f3 q0 q1 q2 q3 q4 qf Om;have f0:=HM.o.vs.c0;have f1:=HM.o.vs.c1;have f2:=HM.o.vs.c2;have f3:=HM.o.vs.c3;go_wp2_with (go_at_call 165;refine(Et (A+1) (A+2) s j2 2 HZ.o j2 _ HM.o.vs).mono ?_);rintro e t1 ⟨rfl,n,hn⟩;have HT:Hd (RV w A s j2 2 j2 x1 x2 0 ⟨#[]⟩ ⟨#[]⟩ t1):=by show RV _ _ _ _ _ _ _ _ _ _ _ t1;rw[hn];exact HM.o.drew n
      clear hn f0 f1 f2 f3;have f0:=HT.o.vs.c0;have f1:=HT.o.vs.c1;have f2:=HT.o.vs.c2;have f3:=HT.o.vs.c3;obtain⟨z0,z1,z2,z3,z4⟩:=HT.o.vz.cells;have zf:=HT.o.vz.f;go_wp2
      go_region
      go_wp2;refine bodyPost_ret (qm (p:=2) (u:=3) (r:=4) rfl _ _ A _ _ (0,0) _ rfl (xR HT.o.vz 0 0 0 ⟨#[]⟩ ⟨#[]⟩) underlying182 rfl (by kernel_rfl)) rfl ⟨?_,ay (tX HT.o.gb HT.o.le 0 0 0 ⟨#[]⟩ ⟨#[]⟩) 1⟩;rw[FIN.o];rfl
     | true =>
      have hc':=of_decide_eq_true hc2;have HRn:Hd (R=if(rdNum l (j2+1)).1=0 then yP l (rdNum l (j2+1)).2.2 x1 x2 (rdNum l (j2+1)).2.1 else((rdNum l (j2+1)).1,(rdNum l (j2+1)).2.2,0,0,0)):=by
       show R=_;have hr:=HR2.o;unfold tY at hr;rw[if_pos hc']at hr;exact hr
      have qo:Hd (j2+1<=s.size):=by have:=(List.getElem?_eq_some_iff.1 hc').1;rw[HL.o.2]at this;exact this
      have CM:=ae (MY.o _ _ _ _ hc' ut.o.vs);clear hc2 hc';go_wp2_with (go_at_call 164;refine CM.o.mono ?_);rintro e v3 ⟨rfl,hvs,hg⟩;have pJ:=ae (ut.o.call hg hvs);clear hvs hg f0 f1 f2 f3 q0 q1 q2 q3 q4 qf Om HR2 CM;have f0:=pJ.o.vs.c0;have f1:=pJ.o.vs.c1;have f2:=pJ.o.vs.c2;have f3:=pJ.o.vs.c3;go_wp2_with (go_at_call 163;refine(CN.o _ (j2+1) c2 _ qo.o pJ.o.vs).mono ?_);rintro e u3 ⟨x3,j3,E3,c3,rfl,hvs,hg,hE,hok,herr⟩;have Oo:=ae (pJ.o.call hg hvs);have jW:Hd (E3=(rdNum l (j2+1)).1/\(E3=0->x3=(rdNum l (j2+1)).2.1/\j3=(rdNum l (j2+1)).2.2/\j3<=s.size)/\(E3≠0->c3=(rdNum l (j2+1)).2.2)):=by rw[HL.o.1];exact⟨hE,hok,herr⟩
      clear hvs hg hE hok herr f0 f1 f2 f3;obtain⟨U3,WV⟩:=zN (u3.setCell ⟨A+2,2,none⟩ (.int .i64 x3));have mQ:Hd (RV w A s j3 E3 c3 x1 x2 x3 ⟨#[]⟩ ⟨#[]⟩ U3):=by show RV _ _ _ _ _ _ _ _ _ _ _ U3;rw[<-WV];exact Oo.o.put2 x3
      obtain⟨q0,q1,q2,q3,q4⟩:=Oo.o.vr.cells;have qf:=Oo.o.vr.f;have f0:=mQ.o.vs.c0;have f1:=mQ.o.vs.c1;have f2:=mQ.o.vs.c2;have f3:=mQ.o.vs.c3
      cases hz3:(E3 == 0) with
      | false =>
       have HZ:Hd (E3≠0):=by show E3≠0;simpa using hz3
       have FIN:Hd (X=(E3,c3,zeroV)):=by
        show X=_;have h9:¬(rdNum l (j2+1)).1=0:=fun e=>HZ.o (jW.o.1.trans e)
        have hr:=HRn.o;rw[if_neg h9,<-jW.o.1,<-jW.o.2.2 HZ.o]at hr;rw[HV.o,hr,if_neg HZ.o]
       go_wp2_with (go_at_call 165;refine(Et (A+1) (A+2) s j3 E3 HZ.o c3 _ mQ.o.vs).mono ?_);rintro e t1 ⟨rfl,n,hn⟩;have HT:Hd (RV w A s j3 E3 c3 x1 x2 x3 ⟨#[]⟩ ⟨#[]⟩ t1):=by show RV _ _ _ _ _ _ _ _ _ _ _ t1;rw[hn];exact mQ.o.drew n
       clear hn f0 f1 f2 f3;have f0:=HT.o.vs.c0;have f1:=HT.o.vs.c1;have f2:=HT.o.vs.c2;have f3:=HT.o.vs.c3;obtain⟨z0,z1,z2,z3,z4⟩:=HT.o.vz.cells;have zf:=HT.o.vz.f;go_wp2
       go_region
       go_wp2;refine bodyPost_ret (qm (p:=2) (u:=3) (r:=4) rfl _ _ A _ _ (0,0) _ rfl (xR HT.o.vz 0 0 0 ⟨#[]⟩ ⟨#[]⟩) underlying182 rfl (by kernel_rfl)) rfl ⟨?_,ay (tX HT.o.gb HT.o.le 0 0 0 ⟨#[]⟩ ⟨#[]⟩) 1⟩;rw[FIN.o];rfl
      | true =>
       have h0:E3=0:=by simpa using hz3
       subst h0;clear hz3;have rY:=ae ((jW.o.2.1 rfl).2.2);have HR3:Hd (R=yP l j3 x1 x2 x3):=by
        show R=_;obtain⟨e1,e2,-⟩:=jW.o.2.1 rfl;have hr:=HRn.o;rw[if_pos jW.o.1.symm,<-e1,<-e2]at hr;exact hr
       clear jW HRn;have Ip:=ae (CT.o _ _ _ _ _ _ _ _ rY.o mQ.o.vs mQ.o.vr (by omega));go_wp2_with (go_at_call 165;refine Ip.o.mono ?_);rintro e t1 ⟨rfl,j4,E4,c4,P4,B4,hvs,WX,hg,hE,hok,herr⟩;have HT:=ae (mQ.o.two hg hvs WX);have nO:Hd (E4=(dn l j3).1/\(E4=0->P4=⟨(dn l j3).2.2.1.toArray⟩/\B4=⟨(dn l j3).2.2.2.toArray⟩/\j4=(dn l j3).2.1/\j4<=s.size)/\(E4≠0->c4=(dn l j3).2.1)):=by rw[HL.o.1];exact⟨hE,hok,herr⟩
       have Oq:Hd (X=if(dn l j3).1=0 then(if(dn l j3).2.1<l.length then(2,(dn l j3).2.1,zeroV) else(0,0,⟨x1,x2,x3,(dn l j3).2.2.1,(dn l j3).2.2.2⟩)) else((dn l j3).1,(dn l j3).2.1,zeroV)):=by
        show X=_;have hr:=HR3.o;unfold yP at hr;rw[HV.o,hr];rfl
       clear hvs WX hg hE hok herr f0 f1 f2 f3 q0 q1 q2 q3 q4 qf WV HV HR3
       cases IR:(E4 == 0) with
       | false =>
        have HZ:Hd (E4≠0):=by show E4≠0;simpa using IR
        have FIN:Hd (X=(E4,c4,zeroV)):=by
         show X=_;have h9:¬(dn l j3).1=0:=fun e=>HZ.o (nO.o.1.trans e)
         rw[Oq.o,if_neg h9,<-nO.o.1,<-nO.o.2.2 HZ.o]
        have f0:=HT.o.vs.c0;have f1:=HT.o.vs.c1;have f2:=HT.o.vs.c2;have f3:=HT.o.vs.c3;obtain⟨z0,z1,z2,z3,z4⟩:=HT.o.vz.cells;have zf:=HT.o.vz.f;go_wp2
        go_region
        go_wp2;refine bodyPost_ret (qm (p:=2) (u:=3) (r:=4) rfl _ _ A _ _ (0,0) _ rfl (xR HT.o.vz 0 0 0 ⟨#[]⟩ ⟨#[]⟩) underlying182 rfl (by kernel_rfl)) rfl ⟨?_,ay (tX HT.o.gb HT.o.le 0 0 0 ⟨#[]⟩ ⟨#[]⟩) 1⟩;rw[FIN.o];rfl
       | true =>
        have h0:E4=0:=by simpa using IR
        subst h0;clear IR;have vP:=ae (nO.o.2.1 rfl);have IU:Hd (X=if j4<l.length then(2,j4,zeroV) else(0,0,⟨x1,x2,x3,(dn l j3).2.2.1,(dn l j3).2.2.2⟩)):=by
         show X=_;rw[Oq.o,if_pos nO.o.1.symm,<-vP.o.2.2.1]
        clear nO Oq;have f0:=HT.o.vs.c0;have f1:=HT.o.vs.c1;have f2:=HT.o.vs.c2;have f3:=HT.o.vs.c3
        by_cases hlt:j4<s.size
        ·have hl2:((j4:Nat):Int)<(s.size:Int):=by omega
         have FIN:Hd (X=(2,j4,zeroV)):=by show X=_;rw[IU.o,if_pos (by rw[HL.o.2];exact hlt)]
         go_wp2_with (go_at_call 166;refine(vG (A+1) s j4 c4 2 j4 _ HT.o.vs).mono ?_);rintro e t2 ⟨rfl,hvs,hg⟩;have HT3:=ae (HT.o.call hg hvs);clear hvs hg f0 f1 f2 f3;have f0:=HT3.o.vs.c0;have f1:=HT3.o.vs.c1;have f2:=HT3.o.vs.c2;have f3:=HT3.o.vs.c3;obtain⟨z0,z1,z2,z3,z4⟩:=HT3.o.vz.cells;have zf:=HT3.o.vz.f;go_wp2
         go_region
         go_wp2;refine bodyPost_ret (qm (p:=2) (u:=3) (r:=4) rfl _ _ A _ _ (0,0) _ rfl (xR HT3.o.vz 0 0 0 ⟨#[]⟩ ⟨#[]⟩) underlying182 rfl (by kernel_rfl)) rfl ⟨?_,ay (tX HT3.o.gb HT3.o.le 0 0 0 ⟨#[]⟩ ⟨#[]⟩) 1⟩;rw[FIN.o];rfl
        ·have hl2:¬((j4:Nat):Int)<(s.size:Int):=by omega
         have FIN:Hd (X=(0,0,⟨x1,x2,x3,(dn l j3).2.2.1,(dn l j3).2.2.2⟩)):=by show X=_;rw[IU.o,if_neg (by rw[HL.o.2];exact hlt)]
         clear hlt;obtain⟨z0,z1,z2,z3,z4⟩:=HT.o.vz.cells;have zf:=HT.o.vz.f;obtain⟨q0,q1,q2,q3,q4⟩:=HT.o.vr.cells;go_wp2;refine bodyPost_ret (qm (p:=2) (u:=3) (r:=4) rfl _ _ A _ _ (0,0) _ rfl (xR HT.o.vz x1 x2 x3 P4 B4) underlying182 rfl (by kernel_rfl)) rfl ⟨?_,tX HT.o.gb HT.o.le x1 x2 x3 P4 B4⟩;rw[FIN.o,vP.o.1,vP.o.2.1];rfl
open Go.RowKit
def okV(s:ByteArray):Bool:=decide ((jZ s.data.toList).1=0)
theorem aem(s:ByteArray)(w:World)(hs:s.size<2 ^ 62):Calls prog 86 #[.string s] w fun e w'=>e=.returned (.bool (okV s))/\w.grownBy w' none:=by
 have CR:Hd (∀w,Calls prog 125 #[.string s] w fun e w'=>(∃(x1 x2 x3:Int) (x4 x5:ByteArray) (k:Int),e=.returned (.tuple #[.agg #[.int .i64 x1,.int .i64 x2,.int .i64 x3,.string x4,.string x5],.int .i64 (jZ s.data.toList).1,.int .i64 k]))/\w.grownBy w' none):=fun w=>(ael s w hs).mono fun e w' ⟨h1,h2⟩=>⟨⟨_,_,_,_,_,_,h1⟩,h2⟩
 unfold okV;obtain⟨E,hE⟩:=zN ((jZ s.data.toList).1);rw[hE]at CR ⊢;clear hE;have hd:decide (E=0)=(E == 0):=by rw[Bool.eq_iff_iff];simp
 rw[hd];clear hd;go_enter func86,ntmps86;go_wp2_with (go_at_call 125;refine(CR.o _).mono ?_);rintro e w1 ⟨⟨x1,x2,x3,x4,x5,k,rfl⟩,hg⟩
 cases hz:(E == 0) with
 | true =>
  go_wp2;go_ret;exact⟨bJ hz.symm,ai hg (bC (au w1 none) _)⟩
 | false =>
  go_wp2;go_ret;exact⟨bJ hz.symm,ai hg (bC (au w1 none) _)⟩
open Go.RowKit Go.Maps
def nP(s:ByteArray):Bool:=lW s.data.toList
noncomputable def qH(x:En):Bool:=nameB x.nm && okV x.ve && nP x.dg && x.nd.all nameB
def aT(L:List En)(n:ByteArray):Bool:=L.any fun e=>decide (e.nm=n)
theorem IV(L:List En)(n:ByteArray)(i:Nat)(hi:i<L.length):aT (L.take (i+1)) n=(aT (L.take i) n || decide (L[i].nm=n)):=by
 unfold aT;rw[List.take_succ_eq_append_getElem hi,List.any_append];simp
theorem Ew(L:List En)(n:ByteArray)(i j:Nat)(hj:j<L.length)(hji:j<i)(h:L[j].nm=n):aT (L.take i) n=true:=by
 unfold aT;rw[List.any_eq_true];refine⟨L[j],List.mem_take_iff_getElem.2 ⟨j,by omega,rfl⟩,by simpa using h⟩
theorem WY(L:List En)(n:ByteArray)(i j:Nat)(hij:i<=j)(h:aT (L.take i) n=true):aT (L.take j) n=true:=by
 unfold aT at *;rw[List.any_eq_true]at *;obtain⟨x,hx,h2⟩:=h;refine⟨x,?_,h2⟩;obtain⟨k,hk,rfl⟩:=List.mem_take_iff_getElem.1 hx;exact List.mem_take_iff_getElem.2 ⟨k,by omega,rfl⟩
def l7(L:List ByteArray):Nat->Bool
 | 0=>false
 | i+1=>l7 L i || (match L[i]? with|some x=>(L.take i).any (fun y=>decide (y=x))|none=>false)
theorem Ot(L:List ByteArray)(i:Nat)(hi:i<L.length):l7 L (i+1)=(l7 L i || (L.take i).any (fun y=>decide (y=L[i]))):=by
 simp[l7,List.getElem?_eq_getElem hi]
theorem aen(L:List ByteArray)(i k:Nat)(h:l7 L i=true):l7 L (i+k)=true:=by
 induction k with
 | zero=>exact h
 | succ k ih=>rw[<-Nat.add_assoc,l7,ih];rfl
theorem aeo(L:List ByteArray)(i:Nat)(hi:i<L.length)(h:(L.take i).any (fun y=>decide (y=L[i]))=true):l7 L L.length=true:=by
 have h1:l7 L (i+1)=true:=by rw[Ot L i hi,h,Bool.or_true]
 have:=aen L (i+1) (L.length-(i+1)) h1
 rwa [show i+1+(L.length-(i+1))=L.length by omega]at this
theorem aep(L:List ByteArray)(i:Nat)(hi:i<L.length)(h:(L.take i).any (fun y=>decide (y=L[i]))=false)(h0:l7 L i=false):l7 L (i+1)=false:=by
 rw[Ot L i hi,h,h0];rfl
def je(n:ByteArray):Lit:=.string n.data.toList
theorem WZ{a b:ByteArray}(h:je a=je b):a=b:=by
 unfold je at h;injection h with h
 exact ByteArray.ext (Array.ext' h)
def gu(L:List En):Nat->DataW Unit
 | 0=>.map []
 | i+1=>match L[i]? with
  | some x=>if Maps.has (gu L i) (je x.nm)=true then gu L i else(gu L i).put (je x.nm) (.lit (.int .i64 (i:Int)))
  | none=>gu L i
theorem Ey(L:List En)(i:Nat)(hi:i<L.length):gu L (i+1)=if Maps.has (gu L i) (je L[i].nm)=true then gu L i else(gu L i).put (je L[i].nm) (.lit (.int .i64 (i:Int))):=by
 simp[gu,List.getElem?_eq_getElem hi]
theorem IW(L:List En):∀i,i<=L.length->IsMap (gu L i)
 | 0,_=>isMap_empty
 | i+1,h=>by
  rw[Ey L i (by omega)];split
  ·exact IW L i (by omega)
  ·exact(IW L i (by omega)).put _ _
theorem Ez(L:List En)(n:ByteArray):∀i,i<=L.length->Maps.has (gu L i) (je n)=aT (L.take i) n
 | 0,_=>by simp[gu,aT,Maps.has]
 | i+1,h=>by
  have ih:=Ez L n i (by omega);have hm:=IW L i (by omega);rw[Ey L i (by omega),IV L n i (by omega)]
  by_cases he:L[i].nm=n
  ·rw[he];split
   ·rename_i h1;rw[h1];simp
   ·rw[has_put_same hm (by trivial)];simp
  ·have hne:je n≠je L[i].nm:=fun e=>he (WZ e).symm
   rw[decide_eq_false he,Bool.or_false];split
   ·exact ih
   ·rw[has_put_other hne];exact ih
theorem W9(L:List En)(n:ByteArray):∀i,i<=L.length->aT (L.take i) n=true->∃j,∃hj:j<L.length,j<i/\L[j].nm=n/\aT (L.take j) n=false/\∀z,(gu L i).atKey (je n) z=.lit (.int .i64 (j:Int))
 | 0,_,h=>by simp[aT]at h
 | i+1,hi,h=>by
  have hm:=IW L i (by omega);have hh:=Ez L L[i].nm i (by omega)
  by_cases h0:aT (L.take i) n=true
  ·obtain⟨j,hj,h1,h2,h3,h4⟩:=W9 L n i (by omega) h0;refine⟨j,hj,by omega,h2,h3,fun z=>?_⟩;rw[Ey L i (by omega)];split
   ·exact h4 z
   ·rename_i hf;have hne:je n≠je L[i].nm:=fun e=>by
     rw[<-WZ e]at hf hh;rw[hh]at hf;exact hf h0
    rw[atKey_put_other hne];exact h4 z
  ·rw[IV L n i (by omega)]at h;have h0':aT (L.take i) n=false:=by simpa using h0
   rw[h0',Bool.false_or]at h;have he:L[i].nm=n:=by simpa using h
   refine⟨i,by omega,by omega,he,h0',fun z=>?_⟩;rw[Ey L i (by omega),he,if_neg (by rw[Ez L n i (by omega),h0'];simp)];exact atKey_put_same hm (by trivial) _ _
theorem aeq(L:List En)(i:Nat)(hi:i<L.length):∃j:Nat,j<L.length/\(∀z,(gu L L.length).atKey (je L[i].nm) z=.lit (.int .i64 (j:Int)))/\(j<i↔aT (L.take i) L[i].nm=true):=by
 obtain⟨j,hj,h1,h2,h3,h4⟩:=W9 L L[i].nm L.length (Nat.le_refl _) (Ew L _ L.length i hi hi rfl);refine⟨j,hj,h4,fun h=>Ew L _ i j hj h h2,fun h=>?_⟩;apply Classical.byContradiction;intro hn;rw[WY L _ i j (by omega) h]at h3
 cases h3
theorem keyS:Keyed prog 9:=string_keyed underlying9
theorem A7(w:World):(zeroValue 3).run prog w=.ok (.int .i64 0) w:=by kernel_rfl
theorem Ou(n:Int)(w:World):(Instr.makeMap 50 (some (.int .i64 n))).run prog w=.ok (.map (some w.heap.size)) (w.alloc (.map #[] 0)):=by kernel_rfl
theorem nR{w u u':World}{b:Nat}(h:w.grownBy u none)(hg:u.grownBy u' (some b))(hb:w.heap.size<=b):w.grownBy u' none :=
 ⟨hg.os.trans h.os,hg.tape.trans h.tape,hg.output.trans h.output,Nat.le_trans h.size hg.size,fun k hk hn=>(hg.block k (Nat.lt_of_lt_of_le hk h.size) (by simp;omega)).trans (h.block k hk hn)⟩
theorem Xa(a:Addr)(cap:Nat)(L:List En)(w:World)(hL:L.length<=1048576)(hcap:L.length<=cap)(hz:∀x∈L,x.nm.size<=maxLen)(h:∀i (hi:i<L.length),EnAt w (a.add (i*4)) L[i]) :
  Calls prog 17 #[.slice (some a) L.length cap] w fun e w'=>∃B,e=.returned (.map (some B))/\w'.ownsMap prog 9 (plainElem (H:=Unit) prog 3) B L.length (gu L L.length)/\w.grownBy w' none:=by
 have HA:=ae h;have HZ:=ae hz;clear h hz;obtain⟨B,hB⟩:=zN (w.heap.size);have HB:=ae hB;have hmm:=Ou (L.length:Int) w;go_enter func17,ntmps17;go_wp2
 try rw[hB]
 clear hB hmm;go_loopw [13] (fun vi wr=>∃i:Nat,vi=.int .i64 i/\i<=L.length/\wr.ownsMap prog 9 (plainElem (H:=Unit) prog 3) B i (gu L i)/\w.grownBy wr none) (fun vi _=>L.length-(intOf vi).toNat)
 case atStart=>exact⟨0,rfl,Nat.zero_le _,HB.o ▸ World.ownsMap_made _ _ _ _,bC (au w none) _⟩
 case round =>
  obtain⟨i,rfl,hi,hown,hg⟩:=hrel;have HG:=ae hg
  by_cases hlt:i<L.length
  ·obtain⟨x,hx⟩:=zN (L[i]);obtain⟨e0,e1,e2,sv,e3,hsv⟩:EnAt wr (a.add (i*4)) x:=by rw[<-hx];exact(HA.o i hlt).grow hg
   obtain⟨so,sc,rfl⟩:=xB hsv;have hkey:keyOf prog 9 (.string x.nm)=some (je x.nm):=Go.WideMaps.keyOf_string_mk underlying9 (HZ.o x (by rw[<-hx];exact List.getElem_mem _));have HN:Hd (gu L (i+1)=if Maps.has (gu L i) (je x.nm)=true then gu L i else(gu L i).put (je x.nm) (.lit (.int .i64 (i:Int)))):=by
    show _=_;rw[Ey L i hlt,hx]
   obtain⟨q,hq⟩:=zN (Maps.has (gu L i) (je x.nm));rw[hq]at HN;have hown2:=hown.alloc (.cells #[.string x.nm,.string x.ve,.string x.dg,.slice so x.nd.length sc] 33);have hwi:(Lit.int .i64 (i:Int)).wf=true:=WalkArith.wf_i64 (by omega);clear hg hx hsv
   cases q with
   | true =>
    have kR:Hd (gu L (i+1)=gu L i):=by
     show _=_;rw[HN.o,if_pos rfl]
    go_wp2_with (first|(at_lookup;refine wpList_lookup_own_ok_int _ rfl _ _ 50 rfl 9 3 .i64 keyS underlying50 underlying3 (A7 _) B i _ rfl hown2 _ _ rfl hkey ?_;intro c hat hwc;rw[hq])|go_in);exact⟨⟨i+1,by go_num,by omega,by rw[kR.o];exact hown2.mono (Nat.le_succ _),bC HG.o _⟩,by simp[intOf];omega⟩
   | false =>
    have kR:Hd (gu L (i+1)=(gu L i).put (je x.nm) (.lit (.int .i64 (i:Int)))):=by
     show _=_;rw[HN.o,if_neg (by simp)]
    go_wp2_with (first|(at_lookup;refine wpList_lookup_own_ok_int _ rfl _ _ 50 rfl 9 3 .i64 keyS underlying50 underlying3 (A7 _) B i _ rfl hown2 _ _ rfl hkey ?_;intro c hat hwc;rw[hq])|(at_mapUpdate;refine wpList_mapUpdate_own _ rfl _ _ _ 50 rfl 9 3 keyS underlying50 (plainElem (H:=Unit) prog 3) B i _ rfl hown2 (by unfold maxLen;omega) _ _ _ rfl rfl hkey _ [] (plainElem_int underlying3 hwi) ?_;intro w1 hown1 hgrow1)|go_in);exact⟨⟨i+1,by go_num,by omega,by rw[kR.o];exact hown1,nR (bC HG.o _) hgrow1 (Nat.le_of_eq HB.o)⟩,by simp[intOf];omega⟩
  ·have hil:i=L.length:=by omega
   have HM:Hd (wr.ownsMap prog 9 (plainElem (H:=Unit) prog 3) B L.length (gu L L.length)):=by rw[hil]at hown;exact hown
   clear hg hil hi hown;go_wp2;refine bodyPost_ret (results_tmp (t:=2) rfl _ _ _) rfl ⟨B,rfl,HM.o,HG.o⟩
theorem aer(w:World):Calls prog 17 #[.slice none 0 0] w fun e w'=>∃B,e=.returned (.map (some B))/\w.grownBy w' none:=by
 have hmm:=Ou 0 w;go_enter func17,ntmps17;go_wp2;obtain⟨B,hB⟩:=zN (w.heap.size)
 try rw[hB]
 go_loopw [13] (fun vi wr=>vi=.int .i64 0/\w.grownBy wr none) (fun vi _=>0)
 case atStart=>exact⟨rfl,bC (au w none) _⟩
 case round =>
  obtain⟨rfl,hb⟩:=hrel;have HB:=ae hb;clear hb hmm;go_wp2;refine bodyPost_ret (results_tmp (t:=2) rfl _ _ _) rfl ⟨B,rfl,HB.o⟩
open Go.RowKit
def ed:List UInt8:=[100,105,103,101,115,116]
def bQ:List UInt8:=[110,97,109,101]
def cZ:List UInt8:=[110,101,101,100,115]
def dP:List UInt8:=[118,101,114,115,105,111,110]
def dN:List UInt8:=[112,97,99,107,97,103,101]
def fM:List UInt8:=[102,111,114,109,97,116]
inductive iw where
 | root:iw
 | tabs:iw
 | key:Nat->iw
 | val:Nat->iw
structure Dr where
 lk:Nat->Option iw
 fm:Bool
 tb:List Nat
 es:List En
 wt:List (ByteArray × Nat)
def keepD(d:Dr)(ks:List Nat)(k:iw):Dr:=⟨fun q=>if q∈ks then some k else d.lk q,d.fm,d.tb,d.es,d.wt⟩
def bW(x:Tn):ByteArray:=⟨x.tx.toArray⟩
def takeD(x:Tn)(is:ByteArray->Bool):Int:=if ¬x.kd=3 then 7 else if is (bW x)=true then 0 else 2
def en0:En:=⟨⟨#[]⟩,⟨#[]⟩,⟨#[]⟩,[]⟩
def aW(es:List En)(e:Nat):En:=es[e]?.getD en0
def setD(d:Dr)(e:Nat)(y:En):Dr:=⟨d.lk,d.fm,d.tb,d.es.set e y,d.wt⟩
def nS(d:Dr)(x:Tn)(is:ByteArray->Bool)(e:Nat)(y:En):Except Int Dr:=if takeD x is=0 then .ok (setD d e y) else .error (takeD x is)
noncomputable def jv(d:Dr)(x:Tn)(e:Nat):Except Int Dr :=
 if x.ky=bQ then
  if takeD x nameB=0 then if aT d.es (bW x)=true then .error 5 else .ok (setD d e ⟨bW x,(aW d.es e).ve,(aW d.es e).dg,(aW d.es e).nd⟩) else .error (takeD x nameB)
 else if x.ky=dP then nS d x okV e ⟨(aW d.es e).nm,bW x,(aW d.es e).dg,(aW d.es e).nd⟩
 else if x.ky=ed then nS d x nP e ⟨(aW d.es e).nm,(aW d.es e).ve,bW x,(aW d.es e).nd⟩
 else if x.ky=cZ/\x.kd=1 then .ok (keepD d x.ks (.val e)) else .error 7
noncomputable def nT(d:Dr)(x:Tn)(e:Nat):Except Int Dr :=
 if takeD x nameB=0 then
  if(aW d.es e).nd.any (fun y=>decide (y=bW x))=true then .error 5
  else if(aW d.es e).nd.length=20 then .error 4
  else .ok ⟨d.lk,d.fm,d.tb,d.es.set e ⟨(aW d.es e).nm,(aW d.es e).ve,(aW d.es e).dg,(aW d.es e).nd++[bW x]⟩,d.wt++[(bW x,x.pl)]⟩
 else .error (takeD x nameB)
noncomputable def eQ(d:Dr)(q:Nat)(x:Tn):iw->Except Int Dr
 | .root=>if x.ky=fM then(if ¬x.kd=4 then .error 7 else if ¬x.nu=1 then .error 3 else .ok ⟨d.lk,true,d.tb,d.es,d.wt⟩) else if x.ky=dN/\x.kd=2 then .ok (keepD d x.ks .tabs) else .error 7
 | .tabs=>if d.tb.length=50 then .error 4 else .ok (keepD ⟨d.lk,d.fm,d.tb++[q],d.es++[en0],d.wt⟩ x.ks (.key d.es.length))
 | .key e=>jv d x e
 | .val e=>nT d x e
noncomputable def stepD(ns:List Tn)(q:Nat)(d:Dr):Rs Dr:=match ns[q]? with
 | none=>.ok d
 | some x=>match d.lk q with
  | none=>.ok d
  | some k=>match eQ d q x k with
   | .error c=>.error (c,x.pl)
   | .ok d'=>.ok d'
noncomputable def fV(ns:List Tn):Nat->Dr->Rs Dr
 | 0,d=>.ok d
 | n+1,d=>match stepD ns (ns.length-(n+1)) d with
  | .error e=>.error e
  | .ok d'=>fV ns n d'
theorem Ov{ns:List Tn}{q:Nat}(d:Dr)(hq:q<ns.length):fV ns (ns.length-q) d=match stepD ns q d with | .error e=>.error e | .ok d'=>fV ns (ns.length-(q+1)) d':=by
 obtain⟨n,hn⟩:∃n,ns.length-q=n+1:=⟨ns.length-q-1,by omega⟩;rw[hn,show ns.length-(q+1)=n by omega];show(match stepD ns (ns.length-(n+1)) d with|Except.error e=>Except.error e|Except.ok d'=>fV ns n d')=_;rw[show ns.length-(n+1)=q by omega]
def iM(ns:List Tn)(q:Nat):Nat:=match ns[q]? with|some x=>x.pl|none=>0
def lC(ns:List Tn)(d:Dr):Int × Nat :=
 if d.fm=false then(6,0)
 else match d.tb.find? (fun q=>decide ((af ns q).length<4)) with
  | some q=>(6,iM ns q)
  | none=>match d.wt.find? (fun y=>!aT d.es y.1) with
   | some y=>(6,y.2)
   | none=>(0,0)
def iT:Dr:=⟨fun _=>none,false,[],[],[]⟩
noncomputable def oJ(ns:List Tn):Rs (List En):=match fV ns ns.length (keepD iT (af ns 0) .root) with
 | .error e=>.error e
 | .ok d=>if(lC ns d).1=0 then .ok d.es else .error (lC ns d)
theorem xU{ns:List Tn}{q:Nat}{d d':Dr}{x:Tn}{k:iw}(hx:ns[q]?=some x)(hk:d.lk q=some k)(hl:eQ d q x k=.ok d'):fV ns (ns.length-q) d=fV ns (ns.length-(q+1)) d':=by
 rw[Ov d (List.getElem?_eq_some_iff.1 hx).1];unfold stepD;rw[hx];simp only[];rw[hk];simp only[];rw[hl]
theorem Oy{ns:List Tn}{q:Nat}{d:Dr}(hq:q<ns.length)(hk:d.lk q=none):fV ns (ns.length-q) d=fV ns (ns.length-(q+1)) d:=by
 rw[Ov d hq];unfold stepD;rw[List.getElem?_eq_getElem hq];simp only[];rw[hk]
theorem A8(es:List En)(z:En):aW (es++[z]) es.length=z:=by
 unfold aW;rw[List.getElem?_append_right (Nat.le_refl _),Nat.sub_self];rfl
theorem Ba(es:List En)(z y:En):(es++[z]).set es.length y=es++[y]:=by
 rw[List.set_append_right _ _ (Nat.le_refl _),Nat.sub_self];rfl
end Go.Proofs.YtnnbgjaphfhibaaGreatDoor
