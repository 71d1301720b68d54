import Derived.Test.YtapodndfpecglaaGreatDoorK11
import Derived.Test.YtapodndfpecglaaGreatDoorK06
import Derived.Test.YtapodndfpecglaaGreatDoorK13
set_option linter.all false
set_option maxRecDepth 100000
set_option maxHeartbeats 0
open Go.Proofs.Tryz
namespace Go.Proofs.YtapodndfpecglaaGreatDoor
open Go.RowKit
def ZW:Value->Nat
 | .bool true=>1
 | _=>0
def PH(st:Bool)(b:Nat)(s:ByteArray)(i:Nat)(w:World)(e:Ending)(w':World):Prop :=
 ∃(v:ByteArray) (j:Nat) (E:Int) (c:Nat),e=.returned (.string v)/\VS b s j E c w'/\w.grownBy w' (some b)/\E=(aO st s.data.toList i).1/\(E=0->v=⟨(aK s.data.toList i (j-i)).toArray⟩/\j=(aO st s.data.toList i).2/\j<=s.size)/\(E≠0->c=(aO st s.data.toList i).2)
theorem PI(st:Bool)(b:Nat)(s:ByteArray)(i:Nat)(a:Nat)(w:World)(hi:i<=s.size)(h:VS b s i 0 a w)(hs:s.size<2 ^ 62) :
  Calls prog 94 #[.pointer (some ⟨b,0,none⟩),.bool st] w (PH st b s i w):=by
 have h1:=h.c1;have HR:=ae h;have HI:=ae hi;obtain⟨R,hR⟩:=zN (aO st s.data.toList i);have HRR:=ae hR;have HP:Hd (∀(v:ByteArray) (j:Nat) (E:Int) (c:Nat) (w':World),VS b s j E c w'->w.grownBy w' (some b)->v=⟨(aK s.data.toList i (j-i)).toArray⟩->j<=s.size->(E=0->R=(0,j))->(E≠0->R=(E,c))->PH st b s i w (.returned (.string v)) w'):=by
  intro v j E c w' hv hg he hj h0 h1;refine⟨v,j,E,c,rfl,hv,hg,?_⟩;rw[hR]
  by_cases hE:E=0
  ·have:=h0 hE;subst hE;rw[this];exact⟨rfl,fun _=>⟨he,rfl,hj⟩,fun h=>absurd rfl h⟩
  ·have:=h1 hE;rw[this];exact⟨rfl,fun h=>absurd h hE,fun _=>rfl⟩
 clear hR h hi;go_enter func94,ntmps94;go_wp2;go_loopw [6] (fun vm wr=>∃(mo:Bool) (j c:Nat) (E:Int),vm=.bool mo/\i<=j/\j<=s.size/\VS b s j E c wr/\w.grownBy wr (some b)/\(E=0->(mo=true->aO st s.data.toList j=R)/\(mo=false->R=(0,j)))/\(E≠0->R=(E,c))) (fun vm wr=>2*(s.size-placeOf b wr)+ZW vm)
 case atStart=>exact⟨true,i,a,0,rfl,Nat.le_refl _,HI.o,HR.o,ak _ _,fun _=>⟨fun _=>HRR.o,fun h=>absurd h (by decide)⟩,fun h=>absurd rfl h⟩
 case round =>
  obtain⟨mo,j,c,E,rfl,hij,hjs,hrs,hgb,hp0,hp1⟩:=hrel;have d0:=hrs.c0;have d1:=hrs.c1;have d2:=hrs.c2;have df:=hrs.f1;have az:=ae hrs;have bg:=ae hgb;have sQ:=ae hp0;have mD:=ae hp1;have HJ:Hd (i<=j/\j<=s.size):=⟨hij,hjs⟩;clear hrs hgb h1 HR hp0 hp1 hij hjs;have sl:=fun wx=>pY s i j HJ.o.1 HJ.o.2 wx
  cases mo with
  | false =>
   go_wp2;go_quiet (fail);go_wp2;go_ret;exact HP.o _ j E c _ (az.o.drew _) (aF bg.o _) rfl HJ.o.2 (fun h=>(sQ.o h).2 (by first|rfl|trivial)) mD.o
  | true =>
   cases hz:(E == 0) with
   | false =>
    go_wp2;go_quiet (fail);go_wp2;go_ret;exact HP.o _ j E c _ (az.o.drew _) (aF bg.o _) rfl HJ.o.2 (fun h=>absurd h (by simpa using hz)) mD.o
   | true =>
    have hE:E=0:=by simpa using hz
    subst hE;have mV:=ae ((sQ.o rfl).1 rfl);have iW:=ae az.o.place;obtain⟨k,hk⟩:=zN (runN aT s.data.toList j);have hsl:s.data.toList.length=s.size:=by simp
    have HN:Hd (j+k<=s.size):=by
     show j+k<=s.size;have:=kU aT s.data.toList j (by rw[hsl];exact HJ.o.2);rw[hsl]at this;omega
    have HA:Hd (∀q,j<=q->(hq:q<s.size)->q<j+k->aT s[q]=true):=by
     show ∀q,j<=q->(hq:q<s.size)->q<j+k->aT s[q]=true;intro q h1 hq h2;obtain⟨g1,g2⟩:=yg aT s.data.toList j (q-j) (by omega);have e:j+(q-j)=q:=by omega
     simp only[e]at g2;exact g2
    have HS:Hd (∀q,q=j+k->(hq:q<s.size)->aT s[q]=false):=by
     show ∀q,q=j+k->(hq:q<s.size)->aT s[q]=false;intro q e hq;have:=rE aT s.data.toList j (by rw[hk];simpa [<-e] using hq);simp only[hk,<-e]at this;exact this
    obtain⟨T,hT⟩:=zN (aK s.data.toList j k);have PK:Hd (T.length=k):=by show T.length=k;rw[<-hT];exact mP s.data.toList j k (by rw[hsl];exact HN.o)
    obtain⟨X,hX⟩:∃X:ByteArray,X=⟨T.toArray⟩:=⟨_,rfl⟩;have Iy:Hd (X.data.toList=T):=by show X.data.toList=T;rw[hX]
    have oq:Hd (∀q,q=j+k->∀wx,(Instr.slice 9 (.string s) (some (.int .i64 (j:Int))) (some (.int .i64 (q:Int))) none).run prog wx=.ok (.string X) wx):=by
     show ∀q,q=j+k->∀wx,(Instr.slice 9 (.string s) (some (.int .i64 (j:Int))) (some (.int .i64 (q:Int))) none).run prog wx=.ok (.string X) wx;intro q e wx;subst e;have:=pY s j (j+k) (by omega) HN.o wx;rw[show j+k-j=k by omega,hT,<-hX]at this;exact this
    have HST:Hd ((if k=0 then(2,j) else if iO st T=true then(2,j) else if s.data.toList[j+k]?=some 46 then aO st s.data.toList (j+k+1) else(0,j+k))=R):=by
     have:=mV.o;rw[Ai,hk,hT]at this;exact this
    clear hz sl hk hT hX mV sQ mD hsl;go_wp2;go_loopw [] (fun wq=>∃q:Nat,j<=q/\q<=j+k/\VS b s q 0 c wq/\w.grownBy wq (some b)) (fun wq=>s.size-placeOf b wq)
    case atStart=>exact⟨j,Nat.le_refl _,Nat.le_add_right _ _,az.o,bg.o⟩
    clear az bg d0 d1 d2 df;rename_i wr0 _ _ _;obtain⟨q,hjq,wV,hrs,hgb⟩:=hrel;have d0:=hrs.c0;have d1:=hrs.c1;have df:=hrs.f1;have az:=ae hrs;have bg:=ae hgb;have hns:=HN.o;clear hrs hgb
    by_cases hlt:q<j+k
    ·have jZ:q<s.size:=by omega
     have hD:=HA.o q hjq jZ hlt;have HK:Hd (j<=q/\q<j+k/\q<s.size):=⟨hjq,hlt,jZ⟩;have hlt2:(q:Int)<(s.size:Int):=by omega
     have hw:IntKind.i64.wrap ((q:Int)+1)=((q+1:Nat):Int):=by rw[IntKind.wrap_i64];omega
     clear hlt wV hns hjq;go_wp2;go_quiet (first|(go_at_call 122;exact Calls.quiet_of_same (L9 _ _)));go_wp2;go_roundw
     case rel =>
      have:=HK.o;exact⟨q+1,by omega,by omega,(az.o.drew _).set1 (q+1),bF (aF bg.o _) _ _⟩
     case measure =>
      have e1:=az.o.place;have e2:=((az.o.drew nq).set1 (q+1)).place;rw[e1];exact Nat.lt_of_le_of_lt (Nat.le_of_eq (congrArg (s.size - ·) e2)) (by have:=HK.o;omega)
    ·have HQ:Hd (q=j+k):=by show q=j+k;omega
     have sl2:=oq.o q HQ.o;clear hlt wV hns hjq;have hen:(∃jZ:q<s.size,aT s[q]=false/\((s[q].toNat:Int) == 46)=true/\s.data.toList[q]?=some 46/\q<s.size)\/(∃jZ:q<s.size,aT s[q]=false/\((s[q].toNat:Int) == 46)=false/\¬s.data.toList[q]?=some 46)\/(¬q<s.size/\decide ((q:Int)<(s.size:Int))=false/\¬s.data.toList[q]?=some 46):=by
      by_cases jZ:q<s.size
      ·have hD:=HS.o q HQ.o jZ
       cases q46:((s[q].toNat:Int) == 46) with
       | true=>exact .inl ⟨jZ,hD,q46,by rw[iD s q jZ];congr 1;exact UInt8.toNat_inj.1 (by simp at q46;show s[q].toNat=46;omega),jZ⟩
       | false=>exact .inr (.inl ⟨jZ,hD,q46,by
         rw[iD s q jZ];intro e;have:=Option.some.inj e;rw[this]at q46;exact absurd q46 (by decide)⟩)
      ·exact .inr (.inr ⟨jZ,by simp;omega,by rw[List.getElem?_eq_none (by simp;omega)];simp⟩)
     rcases hen with⟨jZ,hD,q46,hdt⟩|⟨jZ,hD,q46,hdf⟩|⟨wV,hd2,hdf⟩
     all_goals (
      first
       | (have Iz:Hd (s.data.toList[q]?=some 46/\q<s.size):=hdt
          clear hdt)
       | (have ZX:Hd (¬s.data.toList[q]?=some 46):=hdf
          clear hdf)
      first
       | (have hlt2:(q:Int)<(s.size:Int):=by omega
          go_wp2;go_quiet (first|(go_at_call 122;exact Calls.quiet_of_same (L9 _ _))))
       | (go_wp2
          go_quiet (fail))
      obtain⟨W,hW⟩:=zN (wr.drewN nq);have e0:W.cell? ⟨b,0,none⟩=some (.string s):=by rw[<-hW];exact d0
      have e1:W.cell? ⟨b,1,none⟩=some (.int .i64 (q:Int)):=by rw[<-hW];exact d1
      have ef:W.frozen? ⟨b,1,none⟩=false:=by rw[<-hW];exact df
      have HW:Hd (VS b s q 0 c W/\w.grownBy W (some b)):=by
       show VS b s q 0 c W/\w.grownBy W (some b);rw[<-hW];exact⟨az.o.drew _,aF bg.o _⟩
      rw[hW];clear hW d0 d1 df az bg;go_wp2;go_quiet (fail);obtain⟨U,hU⟩:=zN (W.drewN nq);have g0:U.cell? ⟨b,0,none⟩=some (.string s):=by rw[<-hU];exact e0
      have g1:U.cell? ⟨b,1,none⟩=some (.int .i64 (q:Int)):=by rw[<-hU];exact e1
      have gf:U.frozen? ⟨b,1,none⟩=false:=by rw[<-hU];exact ef
      have HU:Hd (VS b s q 0 c U/\w.grownBy U (some b)):=by
       show VS b s q 0 c U/\w.grownBy U (some b);rw[<-hU];exact⟨HW.o.1.drew _,aF HW.o.2 _⟩
      rw[hU];clear hU e0 e1 ef HW sl2;have gX:X.size=k:=by
       have h1:=PK.o;rw[<-Iy.o]at h1;simpa using h1
      obtain⟨ad,had⟩:=zN (X.data.toList.all aN);have CD:Hd (∀w,Calls prog 123 #[.string X] w fun e w'=>e=.returned (.bool ad)/\w'=w):=fun w=>by rw[<-had];exact Gf X w (by have:=HN.o;omega)
      have qi:Hd (iO st T=(st && (ad && (decide (1<k) && decide (T[0]?=some 48))))):=by
       show _=_;rw[<-had,Iy.o];unfold iO;rw[PK.o]
      clear had;have IA:Hd (i<=j/\j<=q/\q<=s.size):=by
       have a1:=HJ.o;have a2:=HQ.o;have a3:=HN.o;exact⟨a1.1,by omega,by omega⟩
      have hw:IntKind.i64.wrap ((q:Int)+1)=((q+1:Nat):Int):=by rw[IntKind.wrap_i64];have:=IA.o;omega
      obtain⟨QD,PL⟩:∃Q:Prop,(aO st s.data.toList (q+1)=R)=Q:=⟨_,rfl⟩;have PM:=ae PL;have HZ:Hd (¬k=0->(if iO st T=true then(2,j) else if s.data.toList[j+k]?=some 46 then aO st s.data.toList (j+k+1) else(0,j+k))=R):=fun hk0=>by
       have:=HST.o;rw[if_neg hk0]at this;exact this
      have HG:Hd (¬k=0->iO st T=false->(s.data.toList[q]?=some 46->QD)/\(¬s.data.toList[q]?=some 46->R=(0,q))):=fun hk0 h=>by
       have:=HZ.o hk0;rw[if_neg (by rw[h];decide),<-HQ.o]at this;exact⟨fun h2=>PM.o.mp (by rw[if_pos h2]at this;exact this),fun h2=>by rw[if_neg h2]at this;exact this.symm⟩
      have hbw:(k=0/\(st=false\/(st=true/\ad=false)\/(st=true/\ad=true)))\/(¬k=0/\∃Ew:0<X.size,(iO st T=false/\(st=false\/(st=true/\ad=false)\/(st=true/\ad=true/\decide ((1:Int)<(X.size:Int))=false)\/(st=true/\ad=true/\decide ((1:Int)<(X.size:Int))=true/\((X[0].toNat:Int) == 48)=false)))\/(iO st T=true/\st=true/\ad=true/\decide ((1:Int)<(X.size:Int))=true/\((X[0].toNat:Int) == 48)=true)):=by
       by_cases hk0:k=0
       ·exact .inl ⟨hk0,by cases st;exact .inl rfl;cases ad;exact .inr (.inl ⟨rfl,rfl⟩);exact .inr (.inr ⟨rfl,rfl⟩)⟩
       ·have Ew:0<X.size:=by omega
        have hT0:T[0]?=some X[0]:=by rw[<-Iy.o,iD X 0 Ew]
        have hbz:=qi.o;rw[hT0,<-gX]at hbz;refine .inr ⟨hk0,Ew,?_⟩
        cases st with
        | false=>exact .inl ⟨hbz,.inl rfl⟩
        | true =>
         cases ad with
         | false=>exact .inl ⟨hbz,.inr (.inl ⟨rfl,rfl⟩)⟩
         | true =>
          cases m2:decide ((1:Int)<(X.size:Int)) with
          | false=>exact .inl ⟨by rw[hbz,show decide (1<X.size)=false from by have:=of_decide_eq_false m2;simp;omega];rfl,.inr (.inr (.inl ⟨rfl,rfl,rfl⟩))⟩
          | true =>
           have h1:=of_decide_eq_true m2
           cases m3:((X[0].toNat:Int) == 48) with
           | false =>
            refine .inl ⟨?_,.inr (.inr (.inr ⟨rfl,rfl,rfl,rfl⟩))⟩;rw[hbz,show decide (some X[0]=some (48:UInt8))=false from by
             simp only[decide_eq_false_iff_not];intro e;have:=Option.some.inj e;rw[this]at m3;exact absurd m3 (by decide)]
            simp
           | true =>
            refine .inr ⟨?_,rfl,rfl,rfl,rfl⟩;rw[hbz,show decide (1<X.size)=true from by simp;omega,show X[0]=48 from UInt8.toNat_inj.1 (by simp at m3;show X[0].toNat=48;omega)];decide
      clear PL
      rcases hbw with⟨hk0,rfl|⟨rfl,rfl⟩|⟨rfl,rfl⟩⟩|⟨hk0,Ew,⟨hb0,rfl|⟨rfl,rfl⟩|⟨rfl,rfl,m2⟩|⟨rfl,rfl,m2,m3⟩⟩|⟨hb1,rfl,rfl,m2,m3⟩⟩
      all_goals (
       first
        | (have m1:=rQ (gX.trans hk0)
           have m2:decide ((1:Int)<(X.size:Int))=false:=by simp;omega
           have jF:Hd (R=(2,q)):=by
            show R=(2,q);rw[HQ.o,<-HST.o,if_pos hk0,hk0];rfl
           clear hk0 gX qi HST HZ HG;go_wp2_with (first|(go_at_call 123;refine(CD.o _).mono ?_;rintro e w' ⟨rfl,rfl⟩)|(go_at_call 72;refine(qw b s q c 2 q _ HU.o.1).mono ?_))
           all_goals (
            rintro e w1 ⟨rfl,hr,hg⟩;have hg2:=ah HU.o.2 hg;obtain⟨EE,cc,hr2,hv,hv2⟩:∃(EE:Int) (cc:Nat),VS b s q EE cc w1/\(EE=0->(s.data.toList[q]?=some 46->QD)/\(¬s.data.toList[q]?=some 46->R=(0,q)))/\(EE≠0->R=(EE,cc)):=⟨2,q,hr,fun h=>absurd h (by decide),fun _=>jF.o⟩;clear hr hg g0 g1 gf HU jF))
        | (have m1:=lM (fun h=>hk0 (gX.symm.trans h))
           first
           | (have jF:Hd (R=(2,j)):=by
               show R=(2,j);rw[<-HZ.o hk0,if_pos hb1]
              clear hb1 hk0 gX qi HST HZ HG;go_wp2_with (first|(go_at_call 123;refine(CD.o _).mono ?_;rintro e w' ⟨rfl,rfl⟩)|(go_at_call 72;refine(qw b s q c 2 j _ HU.o.1).mono ?_))
              all_goals (
               rintro e w1 ⟨rfl,hr,hg⟩;have hg2:=ah HU.o.2 hg;obtain⟨EE,cc,hr2,hv,hv2⟩:∃(EE:Int) (cc:Nat),VS b s q EE cc w1/\(EE=0->(s.data.toList[q]?=some 46->QD)/\(¬s.data.toList[q]?=some 46->R=(0,q)))/\(EE≠0->R=(EE,cc)):=⟨2,j,hr,fun h=>absurd h (by decide),fun _=>jF.o⟩;clear hr hg g0 g1 gf HU jF))
           | (have jF:Hd ((s.data.toList[q]?=some 46->QD)/\(¬s.data.toList[q]?=some 46->R=(0,q))):=HG.o hk0 hb0
              clear hb0 hk0 gX qi HST HZ HG;go_wp2_with (go_at_call 123;refine(CD.o _).mono ?_;rintro e w' ⟨rfl,hx⟩;obtain rfl:=hx.symm)
              all_goals (
               obtain⟨EE,cc,hr2,hv,hv2⟩:∃(EE:Int) (cc:Nat),VS b s q EE cc U/\(EE=0->(s.data.toList[q]?=some 46->QD)/\(¬s.data.toList[q]?=some 46->R=(0,q)))/\(EE≠0->R=(EE,cc)):=⟨0,c,HU.o.1,fun _=>jF.o,fun h=>absurd rfl h⟩;have hg2:=HU.o.2;obtain⟨w1,hw1⟩:=zN U;rw[hw1]at hr2 hg2 ⊢;clear hw1 g0 g1 gf HU jF)))
       all_goals (
        have y0:=hr2.c0;have y1:=hr2.c1;have yf:=hr2.f1;have HY:Hd (VS b s q EE cc w1/\w.grownBy w1 (some b)):=⟨hr2,hg2⟩;have HV:=ae hv;have yP:=ae hv2;clear hr2 hg2 hv hv2
        try go_wp2
        all_goals (
         go_quiet (fail);go_wp2;go_roundw
         case rel =>
          have:=IA.o
          first
           | exact⟨true,q+1,cc,EE,rfl,by omega,by have:=Iz.o.2;omega,(HY.o.1.drew _).set1 (q+1),bF (aF HY.o.2 _) _ _,fun h=>⟨fun _=>PM.o.mpr ((HV.o h).1 Iz.o.1),fun h=>absurd h (by decide)⟩,yP.o⟩
           | exact⟨false,q,cc,EE,rfl,by omega,by omega,HY.o.1.drew _,aF HY.o.2 _,fun h=>⟨fun h=>absurd h (by decide),fun _=>(HV.o h).2 ZX.o⟩,yP.o⟩
         case measure =>
          rw[iW.o];have:=IA.o
          first
           | (have:=Iz.o.2
              refine Nat.lt_of_le_of_lt (Nat.le_of_eq (congrArg (fun x=>2*(s.size-x)+1) ((HY.o.1.drew nq).set1 (q+1)).place)) ?_;show 2*(s.size-(q+1))+1<2*(s.size-j)+1;omega)
           | (refine Nat.lt_of_le_of_lt (Nat.le_of_eq (congrArg (fun x=>2*(s.size-x)+0) (HY.o.1.drew nq).place)) ?_
              show 2*(s.size-q)+0<2*(s.size-j)+1;omega)))))
open Go.RowKit
def VR(v:Nat)(y1 y2 y3:Int)(x4 x5:ByteArray)(w:World):Prop:=w.heap[v]?=some (.cells #[.int .i64 y1,.int .i64 y2,.int .i64 y3,.string x4,.string x5] 97 (0,0))
theorem VR.cells{v:Nat}{y1 y2 y3:Int}{x4 x5:ByteArray}{w:World}(h:VR v y1 y2 y3 x4 x5 w):w.cell? ⟨v,0,none⟩=some (.int .i64 y1)/\w.cell? ⟨v,1,none⟩=some (.int .i64 y2)/\w.cell? ⟨v,2,none⟩=some (.int .i64 y3)/\w.cell? ⟨v,3,none⟩=some (.string x4)/\w.cell? ⟨v,4,none⟩=some (.string x5) :=
 ⟨by rw[ag h];rfl,by rw[ag h];rfl,by rw[ag h];rfl,by rw[ag h];rfl,by rw[ag h];rfl⟩
theorem VR.f{v:Nat}{y1 y2 y3:Int}{x4 x5:ByteArray}{w:World}(h:VR v y1 y2 y3 x4 x5 w)(o:Nat):w.frozen? ⟨v,o,none⟩=false:=Lib.frozen_of_heap h o
theorem VR.grow{b v:Nat}{y1 y2 y3:Int}{x4 x5:ByteArray}{w w':World}(h:VR v y1 y2 y3 x4 x5 w)(hg:w.grownBy w' (some b))(hn:v≠b):VR v y1 y2 y3 x4 x5 w':=by
 unfold VR at h ⊢;rw[hg.block v ((aA h)) (by simpa using hn)];exact h
theorem VR.set3{v:Nat}{y1 y2 y3:Int}{x4 x5:ByteArray}{w:World}(h:VR v y1 y2 y3 x4 x5 w)(z:ByteArray):VR v y1 y2 y3 z x5 (w.setCell ⟨v,3,none⟩ (.string z)):=by
 unfold VR at h ⊢;simp[World.setCell,Array.getElem?_modify,h]
theorem VR.set4{v:Nat}{y1 y2 y3:Int}{x4 x5:ByteArray}{w:World}(h:VR v y1 y2 y3 x4 x5 w)(z:ByteArray):VR v y1 y2 y3 x4 z (w.setCell ⟨v,4,none⟩ (.string z)):=by
 unfold VR at h ⊢;simp[World.setCell,Array.getElem?_modify,h]
theorem VR.other{v u:Nat}{y1 y2 y3:Int}{x4 x5:ByteArray}{w:World}(h:VR v y1 y2 y3 x4 x5 w)(hn:v≠u)(o:Nat)(x:Value):VR v y1 y2 y3 x4 x5 (w.setCell ⟨u,o,none⟩ x):=by
 unfold VR at h ⊢;rw[<-h];exact heap_setCell_other w _ v x hn
theorem sS{w:World}{A:Nat}{z1 z2 z3:Int}{z4 z5:ByteArray}(h:VR A z1 z2 z3 z4 z5 w)(y1 y2 y3:Int)(x4 x5:ByteArray):VR A y1 y2 y3 x4 x5 (rH w A y1 y2 y3 x4 x5):=by
 unfold VR at h ⊢;unfold rH;simp[World.setCell,Array.getElem?_modify,h]
theorem VS.other{b v:Nat}{s:ByteArray}{i:Nat}{E:Int}{a:Nat}{w:World}(h:VS b s i E a w)(hn:b≠v)(o:Nat)(x:Value):VS b s i E a (w.setCell ⟨v,o,none⟩ x):=by
 unfold VS at h ⊢;rw[<-h];exact heap_setCell_other w _ b x hn
theorem G2.set1{b v:Nat}{w w1:World}(h:G2 b v w w1)(o:Nat)(x:Value):G2 b v w (w1.setCell ⟨b,o,none⟩ x) :=
 ⟨h.os,h.tape,h.output,by simpa [World.setCell] using h.size,fun k hk h1 h2=>by rw[<-h.block k hk h1 h2];exact heap_setCell_other w1 _ k x (fun e=>h1 e)⟩
def ZY(b v:Nat)(s:ByteArray)(i:Nat)(y1 y2 y3:Int)(w w':World):Prop :=
 ∃(j:Nat) (E:Int) (c:Nat) (P B:ByteArray),VS b s j E c w'/\VR v y1 y2 y3 P B w'/\G2 b v w w'/\E=(aJ s.data.toList i).1/\(E=0->P=⟨(aJ s.data.toList i).2.2.1.toArray⟩/\B=⟨(aJ s.data.toList i).2.2.2.toArray⟩/\j=(aJ s.data.toList i).2.1/\j<=s.size)/\(E≠0->c=(aJ s.data.toList i).2.1)
theorem BG(b v:Nat)(s:ByteArray)(i:Nat)(E:Int)(hE:E≠0)(a:Nat)(w:World)(h:VS b s i E a w) :
  Calls prog 71 #[.pointer (some ⟨b,0,none⟩),.pointer (some ⟨v,0,none⟩)] w fun e w'=>e=.returned (.tuple #[])/\∃n,w'=w.drewN n:=by
 have h0:=h.c0;have h1:=h.c1;have h2:=h.c2;have HR:=ae h;have hn:(E == 0)=false:=by simpa using hE
 clear h hE;go_enter func71,ntmps71;go_wp2;go_quiet (fail);go_wp2;obtain⟨W,hW⟩:=zN (w.drewN nq);have HW:=ae hW.symm;have e0:W.cell? ⟨b,0,none⟩=some (.string s):=by rw[<-hW];exact h0
 have e1:W.cell? ⟨b,1,none⟩=some (.int .i64 (i:Int)):=by rw[<-hW];exact h1
 have e2:W.cell? ⟨b,2,none⟩=some (.int .i64 E):=by rw[<-hW];exact h2
 rw[hW];clear hW h0 h1 h2;go_quiet (fail);go_wp2
 go_end0
 exact⟨rfl,_,by rw[HW.o,World.drewN_drewN]⟩
theorem PN(s:ByteArray)(j:Nat)(c:UInt8)(z:Int)(hz:(c.toNat:Int)=z):(∃h:j<s.size,((s[j].toNat:Int) == z)=true/\s.data.toList[j]?=some c)\/(∃h:j<s.size,((s[j].toNat:Int) == z)=false/\¬s.data.toList[j]?=some c)\/(¬j<s.size/\decide ((j:Int)<(s.size:Int))=false/\¬s.data.toList[j]?=some c):=by
 by_cases h:j<s.size
 ·rw[iD s j h]
  cases hc:((s[j].toNat:Int) == z) with
  | true=>exact .inl ⟨h,hc,by rw[show s[j]=c from UInt8.toNat_inj.1 (by have:=eq_of_beq hc;omega)]⟩
  | false =>
   refine .inr (.inl ⟨h,hc,fun e=>?_⟩);rw[Option.some.inj e,hz]at hc;simp at hc
 ·exact .inr (.inr ⟨h,by simp;omega,by rw[List.getElem?_eq_none (by simp;omega)];simp⟩)
theorem ZZ(b v:Nat)(s:ByteArray)(i:Nat)(a:Nat)(y1 y2 y3:Int)(w:World)(hi:i<=s.size)(h:VS b s i 0 a w)(hv:VR v y1 y2 y3 ⟨#[]⟩ ⟨#[]⟩ w)(hbv:b≠v)(hs:s.size<2 ^ 62) :
  Calls prog 71 #[.pointer (some ⟨b,0,none⟩),.pointer (some ⟨v,0,none⟩)] w fun e w'=>e=.returned (.tuple #[])/\ZY b v s i y1 y2 y3 w w':=by
 have bP:Hd (s.data.toList.length=s.size):=by show s.data.toList.length=s.size;simp
 have PP:=ae (fun st i a w (hi:i<=s.size) (h:VS b s i 0 a w)=>PI st b s i a w hi h hs);have HI:=ae h;have BH:=ae hv;have fC:=ae hbv;have lm:=ae hi;have HS:=ae hs;have GET:=ae (iD s);have g0:=h.c0;have g1:=h.c1;have g2:=h.c2;clear h hv hbv hi hs;go_enter func71,ntmps71
 rcases PN s i 45 45 rfl with⟨hlt1,hc1,ho1⟩|⟨hlt1,hc1,hn1⟩|⟨hlt1,hc1,hn1⟩
 all_goals (
  first
   | (have hl2:((i:Nat):Int)<(s.size:Int):=by omega)
   | skip
  go_wp2;go_quiet (fail);obtain⟨U1,hU⟩:=zN ((w).drewN nq);have dE:Hd (VS b s (i) 0 a U1):=by show VS _ _ _ _ _ U1;rw[<-hU];exact HI.o.drew _
  have pJ:Hd (VR v y1 y2 y3 ⟨#[]⟩ ⟨#[]⟩ U1):=by show VR _ _ _ _ _ _ U1;rw[<-hU];exact BH.o
  have pK:Hd (G2 b v w U1):=by show G2 b v w U1;rw[<-hU];exact(G2.refl b v w).drew _
  try rw[hU]
  clear hU g0 g1 g2
  first
   | (have sU:Hd (aX 45 true s.data.toList (i)=((aO true s.data.toList (i+1)).1,(aO true s.data.toList (i+1)).2,fV true s.data.toList (i+1))):=oO (st:=true) ho1
      have BI:=ae hlt1;clear hc1 ho1;have k0:=dE.o.c0;have k1:=dE.o.c1;have k2:=dE.o.c2;have kf:=dE.o.f1;have hw:IntKind.i64.wrap ((i:Int)+1)=((i+1:Nat):Int):=by rw[IntKind.wrap_i64];have:=HS.o;have:=BI.o;omega
      go_wp2_with (first|(go_at_call 94;refine(PP.o true (i+1) _ _ BI.o (dE.o.set1 (i+1))).mono ?_));rintro e u1 ⟨V1,j1,E1,c1,rfl,hvs,hg,hE,hok,herr⟩;have lh:=ae hvs;have uU:=ae ((pJ.o.other (Ne.symm fC.o) _ _).grow hg (Ne.symm fC.o));have Ey:=ae ((pK.o.set1 _ _).step hg);have fQ:Hd (E1=(aO true s.data.toList (i+1)).1/\(E1=0->V1=⟨(aK s.data.toList (i+1) (j1-(i+1))).toArray⟩/\j1=(aO true s.data.toList (i+1)).2/\j1<=s.size)/\(E1≠0->c1=(aO true s.data.toList (i+1)).2)):=⟨hE,hok,herr⟩;have kv:=uU.o.f;obtain⟨q0,q1,q2,q3,q4⟩:=uU.o.cells;clear hvs hg hE hok herr k0 k1 k2 kf hw;obtain⟨W1,hW⟩:=zN (u1.setCell ⟨v,3,none⟩ (.string V1));have HW1:Hd (VS b s j1 E1 c1 W1):=by show VS _ _ _ _ _ W1;rw[<-hW];exact lh.o.other fC.o _ _
      have qL:Hd (VR v y1 y2 y3 V1 ⟨#[]⟩ W1):=by show VR _ _ _ _ _ _ W1;rw[<-hW];exact uU.o.set3 _
      have IB:Hd (G2 b v w W1):=by show G2 b v w W1;rw[<-hW];exact Ey.o.set _ _
      go_wp2
      try rw[hW]
      clear hW kv q0 q1 q2 q3 q4;obtain⟨bz,hz⟩:=zN ((E1 == 0))
      rcases bz with - | -
      ·have HZ:Hd (¬E1=0):=by show ¬E1=0;simpa using hz
       have g0:=HW1.o.c0;have g1:=HW1.o.c1;have g2:=HW1.o.c2;go_quiet (fail);go_wp2
       go_end0
       have h9:¬(aO true s.data.toList (i+1)).1=0:=fun e=>HZ.o (fQ.o.1.trans e)
       refine⟨rfl,j1,E1,c1,V1,⟨#[]⟩,HW1.o.drew _,qL.o,IB.o.drew _,?_,fun h=>absurd h HZ.o,fun _=>?_⟩
       ·unfold aJ;rw[sU.o];simp only[if_neg h9];exact fQ.o.1
       ·unfold aJ;rw[sU.o];simp only[if_neg h9];exact fQ.o.2.2 HZ.o
      have h0:E1=0:=by simpa using hz
      subst h0;clear hz;obtain⟨hk1,hk2,hk3⟩:=fQ.o.2.1 rfl;obtain⟨jx,cx,VX,LX,hx,zg,hox,hpx,IC⟩:∃jx cx VX LX,VS b s jx 0 cx W1/\VR v y1 y2 y3 VX ⟨#[]⟩ W1/\aX 45 true s.data.toList i=(0,jx,LX)/\VX=⟨LX.toArray⟩/\jx<=s.size:=⟨j1,c1,V1,aK s.data.toList (i+1) (j1-(i+1)),HW1.o,qL.o,by
       have h9:=fQ.o.1.symm;rw[sU.o,h9,hk2];unfold fV;rw[if_pos h9],hk1,hk3⟩
      clear hk1 hk2 hk3 fQ HW1 qL lh uU Ey)
   | (obtain⟨jx,cx,VX,LX,hx,zg,hox,hpx,IC⟩:∃jx cx VX LX,VS b s jx 0 cx U1/\VR v y1 y2 y3 VX ⟨#[]⟩ U1/\aX 45 true s.data.toList i=(0,jx,LX)/\VX=⟨LX.toArray⟩/\jx<=s.size:=⟨i,a,⟨#[]⟩,[],dE.o,pJ.o,mi hn1,rfl,lm.o⟩
      obtain⟨W1,hW⟩:=zN U1;have IB:=ae (hW ▸ pK.o);rw[hW]at hx zg ⊢;clear hW hc1 hn1)
  have HW1:=ae hx;have qL:=ae zg;have dC:=ae hox;have mD:=ae hpx;have qM:=ae IC;have g0:=HW1.o.c0;have g1:=HW1.o.c1;have g2:=HW1.o.c2;clear hx zg hox hpx IC
  try clear hl2
  clear hlt1
  rcases PN s jx 43 43 rfl with⟨hlt3,hc3,ho3⟩|⟨hlt3,hc3,hn3⟩|⟨hlt3,hc3,hn3⟩
  all_goals (
   first
    | (have hl2:((jx:Nat):Int)<(s.size:Int):=by omega)
    | skip
   try go_wp2
   go_quiet (fail);obtain⟨U3,hU⟩:=zN ((W1).drewN nq);have eU:Hd (VS b s jx 0 cx U3):=by show VS _ _ _ _ _ U3;rw[<-hU];exact HW1.o.drew _
   have uV:Hd (VR v y1 y2 y3 VX ⟨#[]⟩ U3):=by show VR _ _ _ _ _ _ U3;rw[<-hU];exact qL.o
   have uX:Hd (G2 b v w U3):=by show G2 b v w U3;rw[<-hU];exact IB.o.drew _
   have k0:=eU.o.c0;have k1:=eU.o.c1;have k2:=eU.o.c2;have kf:=eU.o.f1
   try rw[hU]
   clear hU g0 g1 g2
   first
    | (have dh:Hd (aX 43 false s.data.toList jx=((aO false s.data.toList (jx+1)).1,(aO false s.data.toList (jx+1)).2,fV false s.data.toList (jx+1))):=oO (st:=false) ho3
       have BJ:=ae hlt3;clear hc3 ho3;have hw:IntKind.i64.wrap (((jx:Nat):Int)+1)=((jx+1:Nat):Int):=by rw[IntKind.wrap_i64];have:=HS.o;have:=BJ.o;omega
       go_wp2_with (first|(go_at_call 94;refine(PP.o false (jx+1) _ _ BJ.o (eU.o.set1 (jx+1))).mono ?_));rintro e u3 ⟨V3,j3,E3,c3,rfl,hvs,hg,hE,hok,herr⟩;have HF3:=ae hvs;have wW:=ae ((uV.o.other (Ne.symm fC.o) _ _).grow hg (Ne.symm fC.o));have IE:=ae ((uX.o.set1 _ _).step hg);have iQ:Hd (E3=(aO false s.data.toList (jx+1)).1/\(E3=0->V3=⟨(aK s.data.toList (jx+1) (j3-(jx+1))).toArray⟩/\j3=(aO false s.data.toList (jx+1)).2/\j3<=s.size)/\(E3≠0->c3=(aO false s.data.toList (jx+1)).2)):=⟨hE,hok,herr⟩;have kv:=wW.o.f;obtain⟨q0,q1,q2,q3,q4⟩:=wW.o.cells;clear hvs hg hE hok herr k0 k1 k2 kf hw;go_wp2
       go_end0
       refine⟨rfl,j3,E3,c3,VX,V3,HF3.o.other fC.o _ _,wW.o.set4 _,IE.o.set _ _,?_,?_,?_⟩
       ·rw[iQ.o.1];unfold aJ;rw[dC.o];simp only[if_true];rw[dh.o];simp only;split<;>simp_all
       ·intro h0;obtain⟨e1,e2,e3⟩:=iQ.o.2.1 h0;have h9:=iQ.o.1.symm.trans h0;have hp:fV false s.data.toList (jx+1)=aK s.data.toList (jx+1) ((aO false s.data.toList (jx+1)).2-(jx+1)):=by unfold fV;rw[if_pos h9]
        unfold aJ;rw[dC.o];simp only[if_true];rw[dh.o];simp only[if_pos h9];exact⟨mD.o,by rw[e1,e2,hp],e2,e3⟩
       ·intro h0;have h9:¬(aO false s.data.toList (jx+1)).1=0:=fun e=>h0 (iQ.o.1.trans e)
        unfold aJ;rw[dC.o];simp only[if_true];rw[dh.o];simp only[if_neg h9];exact iQ.o.2.2 h0)
    | (have dh:Hd (aX 43 false s.data.toList jx=(0,jx,[])):=mi hn3
       clear hc3 hn3;go_wp2
       go_end0
       refine⟨rfl,jx,0,_,VX,⟨#[]⟩,eU.o,uV.o,uX.o,?_,?_,fun h=>absurd rfl h⟩
       ·unfold aJ;rw[dC.o];simp only[if_true];rw[dh.o];simp only[if_true]
       ·intro _;unfold aJ;rw[dC.o];simp only[if_true];rw[dh.o];simp only[if_true];exact⟨mD.o,by first|trivial|rfl,by first|trivial|rfl,qM.o⟩)))
open Go.RowKit
structure RV(w:World)(A:Nat)(s:ByteArray)(j:Nat)(E:Int)(c:Nat)(y1 y2 y3:Int)(P B:ByteArray)(u:World):Prop where
 vs:VS (A+1) s j E c u
 vr:VR (A+2) y1 y2 y3 P B u
 vz:VR A 0 0 0 ⟨#[]⟩ ⟨#[]⟩ u
 gb:w.grownBy u none
 le:w.heap.size<=A
theorem RV.drew{w:World}{A:Nat}{s:ByteArray}{j:Nat}{E:Int}{c:Nat}{y1 y2 y3:Int}{P B:ByteArray}{u:World}(h:RV w A s j E c y1 y2 y3 P B u)(n:Nat):RV w A s j E c y1 y2 y3 P B (u.drewN n) :=
 ⟨h.vs.drew n,h.vr,h.vz,aF h.gb n,h.le⟩
theorem RV.call{w:World}{A:Nat}{s:ByteArray}{j:Nat}{E:Int}{c:Nat}{y1 y2 y3:Int}{P B:ByteArray}{u u':World}(h:RV w A s j E c y1 y2 y3 P B u)(hg:u.grownBy u' (some (A+1))){j':Nat}{E':Int}{c':Nat}(hv:VS (A+1) s j' E' c' u'):RV w A s j' E' c' y1 y2 y3 P B u' :=
 ⟨hv,h.vr.grow hg (by omega),h.vz.grow hg (by omega),⟨hg.os.trans h.gb.os,hg.tape.trans h.gb.tape,hg.output.trans h.gb.output,Nat.le_trans h.gb.size hg.size,fun k hk _=>(hg.block k (Nat.lt_of_lt_of_le hk h.gb.size) (by have:=h.le;simp;omega)).trans (h.gb.block k hk (by simp))⟩,h.le⟩
theorem RV.two{w:World}{A:Nat}{s:ByteArray}{j:Nat}{E:Int}{c:Nat}{y1 y2 y3:Int}{P B:ByteArray}{u u':World}(h:RV w A s j E c y1 y2 y3 P B u)(hg:G2 (A+1) (A+2) u u'){j':Nat}{E':Int}{c':Nat}{P' B':ByteArray}(hv:VS (A+1) s j' E' c' u')(hr:VR (A+2) y1 y2 y3 P' B' u'):RV w A s j' E' c' y1 y2 y3 P' B' u' :=
 ⟨hv,hr,by have:=h.vz;unfold VR at this ⊢;rw[hg.block A ((aA this)) (by omega) (by omega)];exact this,⟨hg.os.trans h.gb.os,hg.tape.trans h.gb.tape,hg.output.trans h.gb.output,Nat.le_trans h.gb.size hg.size,fun k hk _=>(hg.block k (Nat.lt_of_lt_of_le hk h.gb.size) (by have:=h.le;omega) (by have:=h.le;omega)).trans (h.gb.block k hk (by simp))⟩,h.le⟩
theorem VR.set0{v:Nat}{y1 y2 y3:Int}{x4 x5:ByteArray}{w:World}(h:VR v y1 y2 y3 x4 x5 w)(z:Int):VR v z y2 y3 x4 x5 (w.setCell ⟨v,0,none⟩ (.int .i64 z)):=by
 unfold VR at h ⊢;simp[World.setCell,Array.getElem?_modify,h]
theorem VR.set1{v:Nat}{y1 y2 y3:Int}{x4 x5:ByteArray}{w:World}(h:VR v y1 y2 y3 x4 x5 w)(z:Int):VR v y1 z y3 x4 x5 (w.setCell ⟨v,1,none⟩ (.int .i64 z)):=by
 unfold VR at h ⊢;simp[World.setCell,Array.getElem?_modify,h]
theorem VR.set2{v:Nat}{y1 y2 y3:Int}{x4 x5:ByteArray}{w:World}(h:VR v y1 y2 y3 x4 x5 w)(z:Int):VR v y1 y2 z x4 x5 (w.setCell ⟨v,2,none⟩ (.int .i64 z)):=by
 unfold VR at h ⊢;simp[World.setCell,Array.getElem?_modify,h]
theorem RV.put0{w:World}{A:Nat}{s:ByteArray}{j:Nat}{E:Int}{c:Nat}{y1 y2 y3:Int}{P B:ByteArray}{u:World}(h:RV w A s j E c y1 y2 y3 P B u)(x:Int):RV w A s j E c x y2 y3 P B (u.setCell ⟨A+2,0,none⟩ (.int .i64 x)) :=
 ⟨h.vs.other (by omega) _ _,h.vr.set0 x,h.vz.other (by omega) _ _,eQ h.gb (by have:=h.le;omega) _ _,h.le⟩
theorem RV.put1{w:World}{A:Nat}{s:ByteArray}{j:Nat}{E:Int}{c:Nat}{y1 y2 y3:Int}{P B:ByteArray}{u:World}(h:RV w A s j E c y1 y2 y3 P B u)(x:Int):RV w A s j E c y1 x y3 P B (u.setCell ⟨A+2,1,none⟩ (.int .i64 x)) :=
 ⟨h.vs.other (by omega) _ _,h.vr.set1 x,h.vz.other (by omega) _ _,eQ h.gb (by have:=h.le;omega) _ _,h.le⟩
theorem RV.put2{w:World}{A:Nat}{s:ByteArray}{j:Nat}{E:Int}{c:Nat}{y1 y2 y3:Int}{P B:ByteArray}{u:World}(h:RV w A s j E c y1 y2 y3 P B u)(x:Int):RV w A s j E c y1 y2 x P B (u.setCell ⟨A+2,2,none⟩ (.int .i64 x)) :=
 ⟨h.vs.other (by omega) _ _,h.vr.set2 x,h.vz.other (by omega) _ _,eQ h.gb (by have:=h.le;omega) _ _,h.le⟩
theorem RV.born(w:World)(s:ByteArray):RV w w.heap.size s 0 0 0 0 0 0 ⟨#[]⟩ ⟨#[]⟩ (((w.alloc (.cells #[.int .i64 0,.int .i64 0,.int .i64 0,.string ⟨#[]⟩,.string ⟨#[]⟩] 97)).alloc (.cells #[.string s,.int .i64 0,.int .i64 0,.int .i64 0] 126)).alloc (.cells #[.int .i64 0,.int .i64 0,.int .i64 0,.string ⟨#[]⟩,.string ⟨#[]⟩] 97)):=by
 refine⟨?_,?_,?_,au (au (au (ak w none) _) _) _,Nat.le_refl _⟩
 ·unfold VS;rw[Lib.alloc_old _ _ _ (by simp)];exact D8 w _ _
 ·unfold VR;have:=D8 (w.alloc (.cells #[.int .i64 0,.int .i64 0,.int .i64 0,.string ⟨#[]⟩,.string ⟨#[]⟩] 97)) (.cells #[.string s,.int .i64 0,.int .i64 0,.int .i64 0] 126) (.cells #[.int .i64 0,.int .i64 0,.int .i64 0,.string ⟨#[]⟩,.string ⟨#[]⟩] 97);simpa using this
 ·unfold VR;rw[Lib.alloc_old _ _ _ (by simp;omega),Lib.alloc_old _ _ _ (by simp)];exact heap_alloc_new w _
theorem PO(s:ByteArray)(w:World)(hs:s.size<2 ^ 62) :
  Calls prog 44 #[.string s] w fun e w'=>e=.returned (.tuple #[jr (gG s.data.toList).2.2,.int .i64 (gG s.data.toList).1,.int .i64 ((gG s.data.toList).2.1:Nat)])/\w.grownBy w' none:=by
 by_cases h100:100<s.size
 ·have hp:gG s.data.toList=(1,0,zeroV):=by unfold gG;rw[if_pos (by simpa using h100)]
  rw[hp];clear hp;go_enter func44,ntmps44;go_wp2;exact bodyPost_ret (nZ (p:=2) (u:=3) (r:=4) rfl _ _ w.heap.size _ _ (0,0) _ rfl (heap_alloc_new w _) underlying97 rfl (by kernel_rfl)) rfl ⟨rfl,au (ak w none) _⟩
 ·have hp:gG s.data.toList=dG s.data.toList:=by unfold gG;rw[if_neg (by simpa using h100)]
  rw[hp];clear hp;obtain⟨l,hl⟩:∃l,l=s.data.toList:=⟨_,rfl⟩;have HL:Hd (l=s.data.toList/\l.length=s.size):=⟨hl,by rw[hl];simp⟩;have CN:=ae (fun b i a w (hi:i<=s.size) (h:VS b s i 0 a w)=>Om b s i a w hi h hs);have MY:Hd (∀b i a w,l[i]?=some 46->VS b s i 0 a w->Calls prog 70 #[.pointer (some ⟨b,0,none⟩),.int .u8 46] w fun e w'=>e=.returned (.tuple #[])/\VS b s (i+1) 0 a w'/\w.grownBy w' (some b)):=fun b i a w hc h=>XY b s i 0 a 46 w (by rw[<-hl];exact hc) h hs
  have MN:Hd (∀b i a w,i<=s.size->¬l[i]?=some 46->VS b s i 0 a w->Calls prog 70 #[.pointer (some ⟨b,0,none⟩),.int .u8 46] w fun e w'=>e=.returned (.tuple #[])/\VS b s i 2 i w'/\w.grownBy w' (some b)):=fun b i a w hi hc h=>XZ b s i a 46 w hi (by rw[<-hl];exact hc) h hs
  have CT:=ae (fun b v i a y1 y2 y3 w (hi:i<=s.size) (h1:VS b s i 0 a w) (h2:VR v y1 y2 y3 ⟨#[]⟩ ⟨#[]⟩ w) (h3:b≠v)=>ZZ b v s i a y1 y2 y3 w hi h1 h2 h3 hs);have HB:=ae (RV.born w s);have oQ:=Oj l;have hnr:=Ob l;obtain⟨R,hR⟩:=zN (bQ l);obtain⟨X,hX⟩:=zN (dG l);rw[hR]at oQ hnr;rw[hX]at oQ;rw[<-hl,hX];have HV:=ae oQ;have HR0:=ae hnr;have HS:=ae hs;clear hl oQ hnr hR hX hs;go_enter func44,ntmps44;go_wp2_with (go_at_call 69;refine(CN.o _ 0 0 _ (Nat.zero_le _) HB.o.vs).mono ?_);rintro e u1 ⟨x1,j1,E1,c1,rfl,hvs,hg,hE,hok,herr⟩;obtain⟨A,hA⟩:=zN (w.heap.size);rw[hA]at HB hvs hg;rw[hA];have HA1:=ae (HB.o.call hg hvs);have fQ:Hd (E1=(rdNum l 0).1/\(E1=0->x1=(rdNum l 0).2.1/\j1=(rdNum l 0).2.2/\j1<=s.size)/\(E1≠0->c1=(rdNum l 0).2.2)):=by rw[HL.o.1];exact⟨hE,hok,herr⟩
  clear hA hvs hg hE hok herr HB;obtain⟨U1,IG⟩:=zN (u1.setCell ⟨A+2,0,none⟩ (.int .i64 x1));have dE:Hd (RV w A s j1 E1 c1 x1 0 0 ⟨#[]⟩ ⟨#[]⟩ U1):=by show RV _ _ _ _ _ _ _ _ _ _ _ U1;rw[<-IG];exact HA1.o.put0 x1
  obtain⟨q0,q1,q2,q3,q4⟩:=HA1.o.vr.cells;have qf:=HA1.o.vr.f;have f0:=dE.o.vs.c0;have f1:=dE.o.vs.c1;have f2:=dE.o.vs.c2;have f3:=dE.o.vs.c3
  cases hz1:(E1 == 0) with
  | false =>
   have HZ:Hd (E1≠0):=by show E1≠0;simpa using hz1
   have FIN:Hd (X=(E1,c1,zeroV)):=by
    show X=_;have h9:¬(rdNum l 0).1=0:=fun e=>HZ.o (fQ.o.1.trans e)
    have hr:=HR0.o;rw[if_neg h9,<-fQ.o.1,<-fQ.o.2.2 HZ.o]at hr;rw[HV.o,hr,if_neg HZ.o]
   go_wp2_with (go_at_call 71;refine(BG (A+1) (A+2) s j1 E1 HZ.o c1 _ dE.o.vs).mono ?_);rintro e t1 ⟨rfl,n,hn⟩;have HT:Hd (RV w A s j1 E1 c1 x1 0 0 ⟨#[]⟩ ⟨#[]⟩ t1):=by show RV _ _ _ _ _ _ _ _ _ _ _ t1;rw[hn];exact dE.o.drew n
   clear hn f0 f1 f2 f3;have f0:=HT.o.vs.c0;have f1:=HT.o.vs.c1;have f2:=HT.o.vs.c2;have f3:=HT.o.vs.c3;obtain⟨z0,z1,z2,z3,z4⟩:=HT.o.vz.cells;have zf:=HT.o.vz.f;go_wp2
   go_region
   go_wp2;refine bodyPost_ret (nZ (p:=2) (u:=3) (r:=4) rfl _ _ A _ _ (0,0) _ rfl (sS HT.o.vz 0 0 0 ⟨#[]⟩ ⟨#[]⟩) underlying97 rfl (by kernel_rfl)) rfl ⟨?_,aF (og HT.o.gb HT.o.le 0 0 0 ⟨#[]⟩ ⟨#[]⟩) 1⟩;rw[FIN.o];rfl
  | true =>
   have h0:E1=0:=by simpa using hz1
   subst h0;clear hz1;have oP:=ae ((fQ.o.2.1 rfl).2.2);have HR1:Hd (R=uJ l j1 x1):=by
    show R=_;obtain⟨e1,e2,-⟩:=fQ.o.2.1 rfl;have hr:=HR0.o;rw[if_pos fQ.o.1.symm,<-e1,<-e2]at hr;exact hr
   clear fQ HR0
   cases hc1:decide (l[j1]?=some 46) with
   | false =>
    have hc':=of_decide_eq_false hc1;have HZ:Hd ((2:Int)≠0):=by show(2:Int)≠0;decide
    have FIN:Hd (X=(2,j1,zeroV)):=by
     show X=_;have hr:=HR1.o;unfold uJ at hr;rw[if_neg hc']at hr;rw[HV.o,hr];rfl
    have CM:=ae (MN.o _ _ _ _ oP.o hc' dE.o.vs);clear hc1 hc';go_wp2_with (go_at_call 70;refine CM.o.mono ?_);rintro e v1 ⟨rfl,hvs,hg⟩;have HM:=ae (dE.o.call hg hvs);clear hvs hg f0 f1 f2 f3 q0 q1 q2 q3 q4 qf IG;have f0:=HM.o.vs.c0;have f1:=HM.o.vs.c1;have f2:=HM.o.vs.c2;have f3:=HM.o.vs.c3;go_wp2_with (go_at_call 71;refine(BG (A+1) (A+2) s j1 2 HZ.o j1 _ HM.o.vs).mono ?_);rintro e t1 ⟨rfl,n,hn⟩;have HT:Hd (RV w A s j1 2 j1 x1 0 0 ⟨#[]⟩ ⟨#[]⟩ t1):=by show RV _ _ _ _ _ _ _ _ _ _ _ t1;rw[hn];exact HM.o.drew n
    clear hn f0 f1 f2 f3;have f0:=HT.o.vs.c0;have f1:=HT.o.vs.c1;have f2:=HT.o.vs.c2;have f3:=HT.o.vs.c3;obtain⟨z0,z1,z2,z3,z4⟩:=HT.o.vz.cells;have zf:=HT.o.vz.f;go_wp2
    go_region
    go_wp2;refine bodyPost_ret (nZ (p:=2) (u:=3) (r:=4) rfl _ _ A _ _ (0,0) _ rfl (sS HT.o.vz 0 0 0 ⟨#[]⟩ ⟨#[]⟩) underlying97 rfl (by kernel_rfl)) rfl ⟨?_,aF (og HT.o.gb HT.o.le 0 0 0 ⟨#[]⟩ ⟨#[]⟩) 1⟩;rw[FIN.o];rfl
   | true =>
    have hc':=of_decide_eq_true hc1;have HRn:Hd (R=if(rdNum l (j1+1)).1=0 then qp l (rdNum l (j1+1)).2.2 x1 (rdNum l (j1+1)).2.1 else((rdNum l (j1+1)).1,(rdNum l (j1+1)).2.2,0,0,0)):=by
     show R=_;have hr:=HR1.o;unfold uJ at hr;rw[if_pos hc']at hr;exact hr
    have gY:Hd (j1+1<=s.size):=by have:=(List.getElem?_eq_some_iff.1 hc').1;rw[HL.o.2]at this;exact this
    have CM:=ae (MY.o _ _ _ _ hc' dE.o.vs);clear hc1 hc';go_wp2_with (go_at_call 70;refine CM.o.mono ?_);rintro e v2 ⟨rfl,hvs,hg⟩;have zh:=ae (dE.o.call hg hvs);clear hvs hg f0 f1 f2 f3 q0 q1 q2 q3 q4 qf IG HR1 CM;have f0:=zh.o.vs.c0;have f1:=zh.o.vs.c1;have f2:=zh.o.vs.c2;have f3:=zh.o.vs.c3;go_wp2_with (go_at_call 69;refine(CN.o _ (j1+1) c1 _ gY.o zh.o.vs).mono ?_);rintro e u2 ⟨x2,j2,E2,c2,rfl,hvs,hg,hE,hok,herr⟩;have HA2:=ae (zh.o.call hg hvs);have fZ:Hd (E2=(rdNum l (j1+1)).1/\(E2=0->x2=(rdNum l (j1+1)).2.1/\j2=(rdNum l (j1+1)).2.2/\j2<=s.size)/\(E2≠0->c2=(rdNum l (j1+1)).2.2)):=by rw[HL.o.1];exact⟨hE,hok,herr⟩
    clear hvs hg hE hok herr f0 f1 f2 f3;obtain⟨U2,II⟩:=zN (u2.setCell ⟨A+2,1,none⟩ (.int .i64 x2));have dR:Hd (RV w A s j2 E2 c2 x1 x2 0 ⟨#[]⟩ ⟨#[]⟩ U2):=by show RV _ _ _ _ _ _ _ _ _ _ _ U2;rw[<-II];exact HA2.o.put1 x2
    obtain⟨q0,q1,q2,q3,q4⟩:=HA2.o.vr.cells;have qf:=HA2.o.vr.f;have f0:=dR.o.vs.c0;have f1:=dR.o.vs.c1;have f2:=dR.o.vs.c2;have f3:=dR.o.vs.c3
    cases hz2:(E2 == 0) with
    | false =>
     have HZ:Hd (E2≠0):=by show E2≠0;simpa using hz2
     have FIN:Hd (X=(E2,c2,zeroV)):=by
      show X=_;have h9:¬(rdNum l (j1+1)).1=0:=fun e=>HZ.o (fZ.o.1.trans e)
      have hr:=HRn.o;rw[if_neg h9,<-fZ.o.1,<-fZ.o.2.2 HZ.o]at hr;rw[HV.o,hr,if_neg HZ.o]
     go_wp2_with (go_at_call 71;refine(BG (A+1) (A+2) s j2 E2 HZ.o c2 _ dR.o.vs).mono ?_);rintro e t1 ⟨rfl,n,hn⟩;have HT:Hd (RV w A s j2 E2 c2 x1 x2 0 ⟨#[]⟩ ⟨#[]⟩ t1):=by show RV _ _ _ _ _ _ _ _ _ _ _ t1;rw[hn];exact dR.o.drew n
     clear hn f0 f1 f2 f3;have f0:=HT.o.vs.c0;have f1:=HT.o.vs.c1;have f2:=HT.o.vs.c2;have f3:=HT.o.vs.c3;obtain⟨z0,z1,z2,z3,z4⟩:=HT.o.vz.cells;have zf:=HT.o.vz.f;go_wp2
     go_region
     go_wp2;refine bodyPost_ret (nZ (p:=2) (u:=3) (r:=4) rfl _ _ A _ _ (0,0) _ rfl (sS HT.o.vz 0 0 0 ⟨#[]⟩ ⟨#[]⟩) underlying97 rfl (by kernel_rfl)) rfl ⟨?_,aF (og HT.o.gb HT.o.le 0 0 0 ⟨#[]⟩ ⟨#[]⟩) 1⟩;rw[FIN.o];rfl
    | true =>
     have h0:E2=0:=by simpa using hz2
     subst h0;clear hz2;have HJ2:=ae ((fZ.o.2.1 rfl).2.2);have HR2:Hd (R=qp l j2 x1 x2):=by
      show R=_;obtain⟨e1,e2,-⟩:=fZ.o.2.1 rfl;have hr:=HRn.o;rw[if_pos fZ.o.1.symm,<-e1,<-e2]at hr;exact hr
     clear fZ HRn
     cases hc2:decide (l[j2]?=some 46) with
     | false =>
      have hc':=of_decide_eq_false hc2;have HZ:Hd ((2:Int)≠0):=by show(2:Int)≠0;decide
      have FIN:Hd (X=(2,j2,zeroV)):=by
       show X=_;have hr:=HR2.o;unfold qp at hr;rw[if_neg hc']at hr;rw[HV.o,hr];rfl
      have CM:=ae (MN.o _ _ _ _ HJ2.o hc' dR.o.vs);clear hc2 hc';go_wp2_with (go_at_call 70;refine CM.o.mono ?_);rintro e v1 ⟨rfl,hvs,hg⟩;have HM:=ae (dR.o.call hg hvs);clear hvs hg f0 f1 f2 f3 q0 q1 q2 q3 q4 qf II;have f0:=HM.o.vs.c0;have f1:=HM.o.vs.c1;have f2:=HM.o.vs.c2;have f3:=HM.o.vs.c3;go_wp2_with (go_at_call 71;refine(BG (A+1) (A+2) s j2 2 HZ.o j2 _ HM.o.vs).mono ?_);rintro e t1 ⟨rfl,n,hn⟩;have HT:Hd (RV w A s j2 2 j2 x1 x2 0 ⟨#[]⟩ ⟨#[]⟩ t1):=by show RV _ _ _ _ _ _ _ _ _ _ _ t1;rw[hn];exact HM.o.drew n
      clear hn f0 f1 f2 f3;have f0:=HT.o.vs.c0;have f1:=HT.o.vs.c1;have f2:=HT.o.vs.c2;have f3:=HT.o.vs.c3;obtain⟨z0,z1,z2,z3,z4⟩:=HT.o.vz.cells;have zf:=HT.o.vz.f;go_wp2
      go_region
      go_wp2;refine bodyPost_ret (nZ (p:=2) (u:=3) (r:=4) rfl _ _ A _ _ (0,0) _ rfl (sS HT.o.vz 0 0 0 ⟨#[]⟩ ⟨#[]⟩) underlying97 rfl (by kernel_rfl)) rfl ⟨?_,aF (og HT.o.gb HT.o.le 0 0 0 ⟨#[]⟩ ⟨#[]⟩) 1⟩;rw[FIN.o];rfl
     | true =>
      have hc':=of_decide_eq_true hc2;have HRn:Hd (R=if(rdNum l (j2+1)).1=0 then wF l (rdNum l (j2+1)).2.2 x1 x2 (rdNum l (j2+1)).2.1 else((rdNum l (j2+1)).1,(rdNum l (j2+1)).2.2,0,0,0)):=by
       show R=_;have hr:=HR2.o;unfold qp at hr;rw[if_pos hc']at hr;exact hr
      have gY:Hd (j2+1<=s.size):=by have:=(List.getElem?_eq_some_iff.1 hc').1;rw[HL.o.2]at this;exact this
      have CM:=ae (MY.o _ _ _ _ hc' dR.o.vs);clear hc2 hc';go_wp2_with (go_at_call 70;refine CM.o.mono ?_);rintro e v3 ⟨rfl,hvs,hg⟩;have zi:=ae (dR.o.call hg hvs);clear hvs hg f0 f1 f2 f3 q0 q1 q2 q3 q4 qf II HR2 CM;have f0:=zi.o.vs.c0;have f1:=zi.o.vs.c1;have f2:=zi.o.vs.c2;have f3:=zi.o.vs.c3;go_wp2_with (go_at_call 69;refine(CN.o _ (j2+1) c2 _ gY.o zi.o.vs).mono ?_);rintro e u3 ⟨x3,j3,E3,c3,rfl,hvs,hg,hE,hok,herr⟩;have IJ:=ae (zi.o.call hg hvs);have iQ:Hd (E3=(rdNum l (j2+1)).1/\(E3=0->x3=(rdNum l (j2+1)).2.1/\j3=(rdNum l (j2+1)).2.2/\j3<=s.size)/\(E3≠0->c3=(rdNum l (j2+1)).2.2)):=by rw[HL.o.1];exact⟨hE,hok,herr⟩
      clear hvs hg hE hok herr f0 f1 f2 f3;obtain⟨U3,PS⟩:=zN (u3.setCell ⟨A+2,2,none⟩ (.int .i64 x3));have eU:Hd (RV w A s j3 E3 c3 x1 x2 x3 ⟨#[]⟩ ⟨#[]⟩ U3):=by show RV _ _ _ _ _ _ _ _ _ _ _ U3;rw[<-PS];exact IJ.o.put2 x3
      obtain⟨q0,q1,q2,q3,q4⟩:=IJ.o.vr.cells;have qf:=IJ.o.vr.f;have f0:=eU.o.vs.c0;have f1:=eU.o.vs.c1;have f2:=eU.o.vs.c2;have f3:=eU.o.vs.c3
      cases hz3:(E3 == 0) with
      | false =>
       have HZ:Hd (E3≠0):=by show E3≠0;simpa using hz3
       have FIN:Hd (X=(E3,c3,zeroV)):=by
        show X=_;have h9:¬(rdNum l (j2+1)).1=0:=fun e=>HZ.o (iQ.o.1.trans e)
        have hr:=HRn.o;rw[if_neg h9,<-iQ.o.1,<-iQ.o.2.2 HZ.o]at hr;rw[HV.o,hr,if_neg HZ.o]
       go_wp2_with (go_at_call 71;refine(BG (A+1) (A+2) s j3 E3 HZ.o c3 _ eU.o.vs).mono ?_);rintro e t1 ⟨rfl,n,hn⟩;have HT:Hd (RV w A s j3 E3 c3 x1 x2 x3 ⟨#[]⟩ ⟨#[]⟩ t1):=by show RV _ _ _ _ _ _ _ _ _ _ _ t1;rw[hn];exact eU.o.drew n
       clear hn f0 f1 f2 f3;have f0:=HT.o.vs.c0;have f1:=HT.o.vs.c1;have f2:=HT.o.vs.c2;have f3:=HT.o.vs.c3;obtain⟨z0,z1,z2,z3,z4⟩:=HT.o.vz.cells;have zf:=HT.o.vz.f;go_wp2
       go_region
       go_wp2;refine bodyPost_ret (nZ (p:=2) (u:=3) (r:=4) rfl _ _ A _ _ (0,0) _ rfl (sS HT.o.vz 0 0 0 ⟨#[]⟩ ⟨#[]⟩) underlying97 rfl (by kernel_rfl)) rfl ⟨?_,aF (og HT.o.gb HT.o.le 0 0 0 ⟨#[]⟩ ⟨#[]⟩) 1⟩;rw[FIN.o];rfl
      | true =>
       have h0:E3=0:=by simpa using hz3
       subst h0;clear hz3;have qM:=ae ((iQ.o.2.1 rfl).2.2);have HR3:Hd (R=wF l j3 x1 x2 x3):=by
        show R=_;obtain⟨e1,e2,-⟩:=iQ.o.2.1 rfl;have hr:=HRn.o;rw[if_pos iQ.o.1.symm,<-e1,<-e2]at hr;exact hr
       clear iQ HRn;have D9:=ae (CT.o _ _ _ _ _ _ _ _ qM.o eU.o.vs eU.o.vr (by omega));go_wp2_with (go_at_call 71;refine D9.o.mono ?_);rintro e t1 ⟨rfl,j4,E4,c4,P4,B4,hvs,PT,hg,hE,hok,herr⟩;have HT:=ae (eU.o.two hg hvs PT);have zk:Hd (E4=(aJ l j3).1/\(E4=0->P4=⟨(aJ l j3).2.2.1.toArray⟩/\B4=⟨(aJ l j3).2.2.2.toArray⟩/\j4=(aJ l j3).2.1/\j4<=s.size)/\(E4≠0->c4=(aJ l j3).2.1)):=by rw[HL.o.1];exact⟨hE,hok,herr⟩
       have IK:Hd (X=if(aJ l j3).1=0 then(if(aJ l j3).2.1<l.length then(2,(aJ l j3).2.1,zeroV) else(0,0,⟨x1,x2,x3,(aJ l j3).2.2.1,(aJ l j3).2.2.2⟩)) else((aJ l j3).1,(aJ l j3).2.1,zeroV)):=by
        show X=_;have hr:=HR3.o;unfold wF at hr;rw[HV.o,hr];rfl
       clear hvs PT hg hE hok herr f0 f1 f2 f3 q0 q1 q2 q3 q4 qf PS HV HR3
       cases hz4:(E4 == 0) with
       | false =>
        have HZ:Hd (E4≠0):=by show E4≠0;simpa using hz4
        have FIN:Hd (X=(E4,c4,zeroV)):=by
         show X=_;have h9:¬(aJ l j3).1=0:=fun e=>HZ.o (zk.o.1.trans e)
         rw[IK.o,if_neg h9,<-zk.o.1,<-zk.o.2.2 HZ.o]
        have f0:=HT.o.vs.c0;have f1:=HT.o.vs.c1;have f2:=HT.o.vs.c2;have f3:=HT.o.vs.c3;obtain⟨z0,z1,z2,z3,z4⟩:=HT.o.vz.cells;have zf:=HT.o.vz.f;go_wp2
        go_region
        go_wp2;refine bodyPost_ret (nZ (p:=2) (u:=3) (r:=4) rfl _ _ A _ _ (0,0) _ rfl (sS HT.o.vz 0 0 0 ⟨#[]⟩ ⟨#[]⟩) underlying97 rfl (by kernel_rfl)) rfl ⟨?_,aF (og HT.o.gb HT.o.le 0 0 0 ⟨#[]⟩ ⟨#[]⟩) 1⟩;rw[FIN.o];rfl
       | true =>
        have h0:E4=0:=by simpa using hz4
        subst h0;clear hz4;have IL:=ae (zk.o.2.1 rfl);have PU:Hd (X=if j4<l.length then(2,j4,zeroV) else(0,0,⟨x1,x2,x3,(aJ l j3).2.2.1,(aJ l j3).2.2.2⟩)):=by
         show X=_;rw[IK.o,if_pos zk.o.1.symm,<-IL.o.2.2.1]
        clear zk IK;have f0:=HT.o.vs.c0;have f1:=HT.o.vs.c1;have f2:=HT.o.vs.c2;have f3:=HT.o.vs.c3
        by_cases hlt:j4<s.size
        ·have hl2:((j4:Nat):Int)<(s.size:Int):=by omega
         have FIN:Hd (X=(2,j4,zeroV)):=by show X=_;rw[PU.o,if_pos (by rw[HL.o.2];exact hlt)]
         go_wp2_with (go_at_call 72;refine(qw (A+1) s j4 c4 2 j4 _ HT.o.vs).mono ?_);rintro e t2 ⟨rfl,hvs,hg⟩;have HT3:=ae (HT.o.call hg hvs);clear hvs hg f0 f1 f2 f3;have f0:=HT3.o.vs.c0;have f1:=HT3.o.vs.c1;have f2:=HT3.o.vs.c2;have f3:=HT3.o.vs.c3;obtain⟨z0,z1,z2,z3,z4⟩:=HT3.o.vz.cells;have zf:=HT3.o.vz.f;go_wp2
         go_region
         go_wp2;refine bodyPost_ret (nZ (p:=2) (u:=3) (r:=4) rfl _ _ A _ _ (0,0) _ rfl (sS HT3.o.vz 0 0 0 ⟨#[]⟩ ⟨#[]⟩) underlying97 rfl (by kernel_rfl)) rfl ⟨?_,aF (og HT3.o.gb HT3.o.le 0 0 0 ⟨#[]⟩ ⟨#[]⟩) 1⟩;rw[FIN.o];rfl
        ·have hl2:¬((j4:Nat):Int)<(s.size:Int):=by omega
         have FIN:Hd (X=(0,0,⟨x1,x2,x3,(aJ l j3).2.2.1,(aJ l j3).2.2.2⟩)):=by show X=_;rw[PU.o,if_neg (by rw[HL.o.2];exact hlt)]
         clear hlt;obtain⟨z0,z1,z2,z3,z4⟩:=HT.o.vz.cells;have zf:=HT.o.vz.f;obtain⟨q0,q1,q2,q3,q4⟩:=HT.o.vr.cells;go_wp2;refine bodyPost_ret (nZ (p:=2) (u:=3) (r:=4) rfl _ _ A _ _ (0,0) _ rfl (sS HT.o.vz x1 x2 x3 P4 B4) underlying97 rfl (by kernel_rfl)) rfl ⟨?_,og HT.o.gb HT.o.le x1 x2 x3 P4 B4⟩;rw[FIN.o,IL.o.1,IL.o.2.1];rfl
open Go.RowKit
def okV(s:ByteArray):Bool:=decide ((gG s.data.toList).1=0)
def aZ(s:ByteArray):Vv:=(gG s.data.toList).2.2
def cutV(v:Vv):V:=⟨v.major,v.minor,v.patch,v.pre⟩
def mF(s t:ByteArray):Bool:=okV s && (okV t && decide (aB (cutV (aZ s)) (cutV (aZ t))=0))
theorem Z4(l:List UInt8)(i k:Nat):(aK l i k).length<=l.length:=by unfold aK;simp;omega
theorem Z5(c:UInt8)(st:Bool)(l:List UInt8)(i:Nat):(aX c st l i).2.2.length<=l.length:=by
 unfold aX
 repeat' split
 all_goals first|exact Z4 _ _ _|exact Nat.zero_le _
theorem zl(s:ByteArray):(aZ s).pre.length<=100:=by
 unfold aZ gG;split
 ·exact Nat.zero_le _
 ·rename_i h;unfold dG
  repeat' split
  all_goals first|exact Nat.zero_le _|(have:=Z5 45 true s.data.toList (bQ s.data.toList).2.1;simp only[];omega)
theorem IM(s:ByteArray)(w:World)(hs:s.size<2 ^ 62):Calls prog 24 #[.string s] w fun e w'=>e=.returned (.bool (okV s))/\w.grownBy w' none:=by
 have CR:Hd (∀w,Calls prog 44 #[.string s] w fun e w'=>(∃(x1 x2 x3:Int) (x4 x5:ByteArray) (k:Int),e=.returned (.tuple #[.agg #[.int .i64 x1,.int .i64 x2,.int .i64 x3,.string x4,.string x5],.int .i64 (gG s.data.toList).1,.int .i64 k]))/\w.grownBy w' none):=fun w=>(PO s w hs).mono fun e w' ⟨h1,h2⟩=>⟨⟨_,_,_,_,_,_,h1⟩,h2⟩
 unfold okV;obtain⟨E,hE⟩:=zN ((gG s.data.toList).1);rw[hE]at CR ⊢;clear hE;have hd:decide (E=0)=(E == 0):=by rw[Bool.eq_iff_iff];simp
 rw[hd];clear hd;go_enter func24,ntmps24;go_wp2_with (go_at_call 44;refine(CR.o _).mono ?_);rintro e w1 ⟨⟨x1,x2,x3,x4,x5,k,rfl⟩,hg⟩
 cases hz:(E == 0) with
 | true =>
  go_wp2;go_ret;exact⟨bn hz.symm,ah hg (au (ak w1 none) _)⟩
 | false =>
  go_wp2;go_ret;exact⟨bn hz.symm,ah hg (au (ak w1 none) _)⟩
theorem IP(s:ByteArray)(w:World)(hs:s.size<2 ^ 62):Calls prog 46 #[.string s] w fun e w'=>e=.returned (jr (aZ s))/\w.grownBy w' none:=by
 have CR:Hd (∀w,Calls prog 44 #[.string s] w fun e w'=>(∃(E k:Int),e=.returned (.tuple #[jr (aZ s),.int .i64 E,.int .i64 k]))/\w.grownBy w' none):=fun w=>(PO s w hs).mono fun e w' ⟨h1,h2⟩=>⟨⟨_,_,h1⟩,h2⟩
 unfold jr at CR ⊢;obtain⟨x1,h1⟩:=zN ((aZ s).major);obtain⟨x2,h2⟩:=zN ((aZ s).minor);obtain⟨x3,h3⟩:=zN ((aZ s).patch);obtain⟨x4,h4⟩:∃x:ByteArray,⟨(aZ s).pre.toArray⟩=x:=⟨_,rfl⟩;obtain⟨x5,h5⟩:∃x:ByteArray,⟨(aZ s).build.toArray⟩=x:=⟨_,rfl⟩;rw[h1,h2,h3,h4,h5]at CR ⊢;clear h1 h2 h3 h4 h5 hs;go_enter func46,ntmps46;go_wp2_with (go_at_call 44;refine(CR.o _).mono ?_);rintro e w1 ⟨⟨E,k,rfl⟩,hg⟩;obtain⟨A,hA⟩:=zN (w.heap.size);have hx:VR A 0 0 0 ⟨#[]⟩ ⟨#[]⟩ w1:=by
  show w1.heap[A]?=_;rw[<-hA,hg.block w.heap.size (by simp) (by simp)];exact heap_alloc_new w _
 have jl:=ae hx;have HG:=ae (ah (au (ak w none) _) hg);have dK:=ae (Nat.le_of_eq hA);have hlt0:=(aA hx)
 try rw[hA]
 clear hA hx hg;obtain⟨ca0,ca1,ca2,ca3,ca4⟩:=jl.o.cells;have ra:=jl.o.f;go_wp2;refine bodyPost_ret (results_cell_row rfl _ _ A 97 #[.int .i64 x1,.int .i64 x2,.int .i64 x3,.string x4,.string x5] (0,0) _ rfl (by rw[Lib.alloc_old _ _ _ (by simpa [World.setCell] using hlt0)];exact sS jl.o x1 x2 x3 x4 x5) underlying97 rfl (by kernel_rfl)) rfl ⟨rfl,au (og HG.o dK.o x1 x2 x3 x4 x5) _⟩
theorem PV(s t:ByteArray)(w:World)(hs:s.size<2 ^ 62)(ht:t.size<2 ^ 62):Calls prog 25 #[.string s,.string t] w fun e w'=>e=.returned (.bool (mF s t))/\w.grownBy w' none:=by
 have IS:=ae (fun w=>IM s w hs);have IT:=ae (fun w=>IM t w ht);have p1:=zl s;have p2:=zl t;have VS1:=ae (fun w=>IP s w hs);have VT1:=ae (fun w=>IP t w ht);have CC:Hd (∀w,Calls prog 45 #[jr (aZ s),jr (aZ t)] w fun e w'=>e=.returned (.int .i64 (aB (cutV (aZ s)) (cutV (aZ t))))/\w.grownBy w' none):=fun w=>by
  refine(Aw _ _ _ _ _ _ _ _ _ _ w (by show(aZ s).pre.toArray.size<=_;simp;omega) (by show(aZ t).pre.toArray.size<=_;simp;omega)).mono ?_;rintro e w' ⟨rfl,h⟩;refine⟨?_,⟨h.os,h.tape,h.output,h.size,fun k hk _=>h.block k hk⟩⟩;simp[cutV]
 unfold mF;obtain⟨bs,hbs⟩:=zN (okV s);obtain⟨bt,hbt⟩:=zN (okV t);obtain⟨Vs,PW⟩:=zN (jr (aZ s));obtain⟨Vt,PX⟩:=zN (jr (aZ t));obtain⟨R,hR⟩:=zN (aB (cutV (aZ s)) (cutV (aZ t)));rw[hbs]at IS ⊢;rw[hbt]at IT ⊢;rw[hR]at CC ⊢;rw[PW]at VS1 CC;rw[PX]at VT1 CC;have hd:decide (R=0)=(R == 0):=by rw[Bool.eq_iff_iff];simp
 rw[hd];clear hd hbs hbt PW PX hR p1 p2 hs ht;have HG:Hd (w.grownBy w none):=ak _ _;go_enter func25,ntmps25;go_wp2_with (go_at_call 24;refine(IS.o _).mono ?_);rintro e w1 ⟨rfl,hg⟩;replace HG:=ae (ah HG.o hg);clear hg;go_wp2_with (go_at_call 24;refine(IT.o _).mono ?_);rintro e w2 ⟨rfl,hg⟩;replace HG:=ae (ah HG.o hg);clear hg
 cases bs with
 | false =>
  go_wp2;go_ret;exact⟨rfl,HG.o⟩
 | true =>
  cases bt with
  | false =>
   go_wp2;go_ret;exact⟨rfl,HG.o⟩
  | true =>
   cases hz:(R == 0) with
   | true =>
    go_wp2_with (first|(go_at_call_of 46 s;refine(VS1.o _).mono ?_;rintro e w' ⟨rfl,hg⟩;replace HG:=ae (ah HG.o hg);clear hg)|(go_at_call_of 46 t;refine(VT1.o _).mono ?_;rintro e w' ⟨rfl,hg⟩;replace HG:=ae (ah HG.o hg);clear hg)|(go_at_call 45;refine(CC.o _).mono ?_;rintro e w' ⟨rfl,hg⟩;replace HG:=ae (ah HG.o hg);clear hg));go_ret;exact⟨bn (show true=(true && (true && (R == 0))) by rw[hz];rfl),HG.o⟩
   | false =>
    go_wp2_with (first|(go_at_call_of 46 s;refine(VS1.o _).mono ?_;rintro e w' ⟨rfl,hg⟩;replace HG:=ae (ah HG.o hg);clear hg)|(go_at_call_of 46 t;refine(VT1.o _).mono ?_;rintro e w' ⟨rfl,hg⟩;replace HG:=ae (ah HG.o hg);clear hg)|(go_at_call 45;refine(CC.o _).mono ?_;rintro e w' ⟨rfl,hg⟩;replace HG:=ae (ah HG.o hg);clear hg));go_ret;exact⟨bn (show false=(true && (true && (R == 0))) by rw[hz];rfl),HG.o⟩
open Go.RowKit
def fG(name v:ByteArray)(x:Re):Bool:=decide (x.nm=name) && mF x.ve v
def gU(name v:ByteArray):List Re->Nat->Int
 | [],_=>-1
 | x :: r,k=>if fG name v x=true then(k:Int) else gU name v r (k+1)
theorem BK{a b:ByteArray}(h:a=b):(a.toList == b.toList)=true:=by rw[h];simp
theorem uY{a b:ByteArray}(h:¬a=b):(a.toList == b.toList)=false:=by
 cases hb:(a.toList == b.toList) with
 | false=>rfl
 | true =>
  exfalso;apply h;have h2:a.toList=b.toList:=by simpa using hb
  rw[Lib.toList_data,Lib.toList_data]at h2;apply ByteArray.ext;exact Array.ext' h2
theorem Z7(a:Addr)(cap:Nat)(L:List Re)(name v:ByteArray)(w:World)(hL:L.length<=1048576)(hcap:L.length<=cap)(hV:∀x∈L,x.ve.size<2 ^ 62)(hv:v.size<2 ^ 62)(h:∀i (hi:i<L.length),ReAt w (a.add (i*4)) L[i]) :
  Calls prog 17 #[.slice (some a) L.length cap,.string name,.string v] w fun e w'=>e=.returned (.int .i64 (gU name v L 0))/\w.grownBy w' none:=by
 have HA:Hd (∀i (hi:i<L.length),ReAt w (a.add (i*4)) L[i]):=h;have CT:Hd (∀x∈L,∀w,Calls prog 25 #[.string x.ve,.string v] w fun e w'=>e=.returned (.bool (mF x.ve v))/\w.grownBy w' none):=fun x hx w=>PV x.ve v w (hV x hx) hv
 obtain⟨R,hR⟩:=zN (gU name v L 0);have HR:Hd (gU name v (L.drop 0) 0=R):=hR;rw[hR];clear h hV hv hR;go_enter func17,ntmps17;go_wp2;go_loopw [7] (fun vi wr=>∃i:Nat,vi=.int .i64 i/\i<=L.length/\gU name v (L.drop i) i=R/\w.grownBy wr none) (fun vi _=>L.length-(intOf vi).toNat)
 case atStart=>exact⟨0,rfl,Nat.zero_le _,HR.o,ak _ _⟩
 case round =>
  obtain⟨i,rfl,hi,hf,hg⟩:=hrel;have HG:Hd (w.grownBy wr none):=hg
  by_cases hlt:i<L.length
  ·obtain⟨x,hx⟩:=zN (L[i]);have qB:ReAt wr (a.add (i*4)) x:=by rw[<-hx];exact(HA.o i hlt).grow hg
   have HE:Hd (ReAt wr (a.add (i*4)) x):=qB;obtain⟨e0,e1,-,-⟩:=qB;have HF:Hd ((if fG name v x=true then(i:Int) else gU name v (L.drop (i+1)) (i+1))=R):=by
    show _=_;rw[List.drop_eq_getElem_cons hlt,hx]at hf;exact hf
   have CX:Hd (∀w,Calls prog 25 #[.string x.ve,.string v] w fun e w'=>e=.returned (.bool (mF x.ve v))/\w.grownBy w' none):=fun w=>CT.o x (by rw[<-hx];exact List.getElem_mem _) w
   obtain⟨b,hb⟩:=zN (mF x.ve v);rw[hb]at CX;have HB:Hd (mF x.ve v=b):=hb;clear hf hg hx hb;go_wp2_with (go_at_call 25;refine(CX.o _).mono ?_);rintro e w1 ⟨rfl,hg1⟩;replace HG:Hd (w.grownBy w1 none):=ah HG.o hg1;replace HE:Hd (ReAt w1 (a.add (i*4)) x):=HE.o.grow hg1;clear e0 e1 hg1;obtain⟨e0,-,-,-⟩:=HE.o
   by_cases hn:x.nm=name
   ·have q:=BK hn;have HN:Hd (x.nm=name):=hn;clear hn
    cases b with
    | true =>
     have HQ:Hd ((i:Int)=R):=by
      have:=HF.o;rw[if_pos (by unfold fG;rw[HN.o,HB.o];simp)]at this;exact this
     go_wp2;go_ret;exact⟨bD HQ.o,HG.o⟩
    | false =>
     have HQ:Hd (gU name v (L.drop (i+1)) (i+1)=R):=by
      have:=HF.o;rw[if_neg (by unfold fG;rw[HB.o];simp)]at this;exact this
     go_wp2;go_roundw
     case rel=>exact⟨i+1,by go_num,by omega,HQ.o,HG.o⟩
     case measure=>simp[intOf];omega
   ·have q:=uY hn;have HQ:Hd (gU name v (L.drop (i+1)) (i+1)=R):=by
     have:=HF.o;rw[if_neg (by unfold fG;simp[hn])]at this;exact this
    clear hn;go_wp2;go_roundw
    case rel=>exact⟨i+1,by go_num,by omega,HQ.o,HG.o⟩
    case measure=>simp[intOf];omega
  ·have hil:i=L.length:=by omega
   have HQ:Hd (-1=R):=by
    show _=_;rw[hil,List.drop_length]at hf;exact hf
   clear hf hg hil;go_wp2;go_ret;exact⟨bD HQ.o,HG.o⟩
end Go.Proofs.YtapodndfpecglaaGreatDoor
