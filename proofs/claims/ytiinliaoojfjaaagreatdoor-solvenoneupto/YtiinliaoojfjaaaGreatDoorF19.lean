import Derived.Test.YtiinliaoojfjaaaGreatDoorF12
import Derived.Test.YtiinliaoojfjaaaGreatDoorF07
set_option linter.all false
set_option maxRecDepth 100000
set_option maxHeartbeats 0
open Go.Proofs.Tryz
namespace Go.Proofs.YtiinliaoojfjaaaGreatDoor
open Go.RowKit
def adt:Value->Nat
 | .bool true=>1
 | _=>0
def Uw(st:Bool)(b:Nat)(s:ByteArray)(i:Nat)(w:World)(e:Ending)(w':World):Prop :=
 ∃(v:ByteArray) (j:Nat) (E:Int) (c:Nat),e=.returned (.string v)/\VS b s j E c w'/\w.grownBy w' (some b)/\E=(aQ st s.data.toList i).1/\(E=0->v=⟨(aO s.data.toList i (j-i)).toArray⟩/\j=(aQ st s.data.toList i).2/\j<=s.size)/\(E≠0->c=(aQ st s.data.toList i).2)
theorem Ux(st:Bool)(b:Nat)(s:ByteArray)(i:Nat)(a:Nat)(w:World)(hi:i<=s.size)(h:VS b s i 0 a w)(hs:s.size<2 ^ 62) :
  Calls prog 77 #[.pointer (some ⟨b,0,none⟩),.bool st] w (Uw st b s i w):=by
 have h1:=h.c1;have HR:=ae h;have HI:=ae hi;obtain⟨R,hR⟩:=zN (aQ st s.data.toList i);have HRR:=ae hR;have HP:Hd (∀(v:ByteArray) (j:Nat) (E:Int) (c:Nat) (w':World),VS b s j E c w'->w.grownBy w' (some b)->v=⟨(aO s.data.toList i (j-i)).toArray⟩->j<=s.size->(E=0->R=(0,j))->(E≠0->R=(E,c))->Uw st b s i w (.returned (.string v)) w'):=by
  intro v j E c w' hv hg he hj h0 h1;refine⟨v,j,E,c,rfl,hv,hg,?_⟩;rw[hR]
  by_cases hE:E=0
  ·have:=h0 hE;subst hE;rw[this];exact⟨rfl,fun _=>⟨he,rfl,hj⟩,fun h=>absurd rfl h⟩
  ·have:=h1 hE;rw[this];exact⟨rfl,fun h=>absurd h hE,fun _=>rfl⟩
 clear hR h hi;go_enter func77,ntmps77;go_wp2;go_loopw [6] (fun vm wr=>∃(mo:Bool) (j c:Nat) (E:Int),vm=.bool mo/\i<=j/\j<=s.size/\VS b s j E c wr/\w.grownBy wr (some b)/\(E=0->(mo=true->aQ st s.data.toList j=R)/\(mo=false->R=(0,j)))/\(E≠0->R=(E,c))) (fun vm wr=>2*(s.size-placeOf b wr)+adt vm)
 case atStart=>exact⟨true,i,a,0,rfl,Nat.le_refl _,HI.o,HR.o,ai _ _,fun _=>⟨fun _=>HRR.o,fun h=>absurd h (by decide)⟩,fun h=>absurd rfl h⟩
 case round =>
  obtain⟨mo,j,c,E,rfl,hij,hjs,hrs,hgb,hp0,hp1⟩:=hrel;have d0:=hrs.c0;have d1:=hrs.c1;have d2:=hrs.c2;have df:=hrs.f1;have aA:=ae hrs;have aZ:=ae hgb;have vX:=ae hp0;have pq:=ae hp1;have HJ:Hd (i<=j/\j<=s.size):=⟨hij,hjs⟩;clear hrs hgb h1 HR hp0 hp1 hij hjs;have sl:=fun wx=>tV s i j HJ.o.1 HJ.o.2 wx
  cases mo with
  | false =>
   go_wp2;go_quiet (fail);go_wp2;go_ret;exact HP.o _ j E c _ (aA.o.drew _) (aH aZ.o _) rfl HJ.o.2 (fun h=>(vX.o h).2 (by first|rfl|trivial)) pq.o
  | true =>
   cases hz:(E == 0) with
   | false =>
    go_wp2;go_quiet (fail);go_wp2;go_ret;exact HP.o _ j E c _ (aA.o.drew _) (aH aZ.o _) rfl HJ.o.2 (fun h=>absurd h (by simpa using hz)) pq.o
   | true =>
    have hE:E=0:=by simpa using hz
    subst hE;have pY:=ae ((vX.o rfl).1 rfl);have iT:=ae aA.o.place;obtain⟨k,hk⟩:=zN (runN aT s.data.toList j);have hsl:s.data.toList.length=s.size:=by simp
    have HN:Hd (j+k<=s.size):=by
     show j+k<=s.size;have:=mG aT s.data.toList j (by rw[hsl];exact HJ.o.2);rw[hsl]at this;omega
    have HA:Hd (∀q,j<=q->(hq:q<s.size)->q<j+k->aT s[q]=true):=by
     show ∀q,j<=q->(hq:q<s.size)->q<j+k->aT s[q]=true;intro q h1 hq h2;obtain⟨g1,g2⟩:=Az aT s.data.toList j (q-j) (by omega);have e:j+(q-j)=q:=by omega
     simp only[e]at g2;exact g2
    have HS:Hd (∀q,q=j+k->(hq:q<s.size)->aT s[q]=false):=by
     show ∀q,q=j+k->(hq:q<s.size)->aT s[q]=false;intro q e hq;have:=uZ aT s.data.toList j (by rw[hk];simpa [<-e] using hq);simp only[hk,<-e]at this;exact this
    obtain⟨T,hT⟩:=zN (aO s.data.toList j k);have Uy:Hd (T.length=k):=by show T.length=k;rw[<-hT];exact pV s.data.toList j k (by rw[hsl];exact HN.o)
    obtain⟨X,hX⟩:∃X:ByteArray,X=⟨T.toArray⟩:=⟨_,rfl⟩;have L6:Hd (X.data.toList=T):=by show X.data.toList=T;rw[hX]
    have lm:Hd (∀q,q=j+k->∀wx,(Instr.slice 9 (.string s) (some (.int .i64 (j:Int))) (some (.int .i64 (q:Int))) none).run prog wx=.ok (.string X) wx):=by
     show ∀q,q=j+k->∀wx,(Instr.slice 9 (.string s) (some (.int .i64 (j:Int))) (some (.int .i64 (q:Int))) none).run prog wx=.ok (.string X) wx;intro q e wx;subst e;have:=tV s j (j+k) (by omega) HN.o wx;rw[show j+k-j=k by omega,hT,<-hX]at this;exact this
    have HST:Hd ((if k=0 then(2,j) else if jc st T=true then(2,j) else if s.data.toList[j+k]?=some 46 then aQ st s.data.toList (j+k+1) else(0,j+k))=R):=by
     have:=pY.o;rw[Ec,hk,hT]at this;exact this
    clear hz sl hk hT hX pY vX pq hsl;go_wp2;go_loopw [] (fun wq=>∃q:Nat,j<=q/\q<=j+k/\VS b s q 0 c wq/\w.grownBy wq (some b)) (fun wq=>s.size-placeOf b wq)
    case atStart=>exact⟨j,Nat.le_refl _,Nat.le_add_right _ _,aA.o,aZ.o⟩
    clear aA aZ d0 d1 d2 df;rename_i wr0 _ _ _;obtain⟨q,hjq,uy,hrs,hgb⟩:=hrel;have d0:=hrs.c0;have d1:=hrs.c1;have df:=hrs.f1;have aA:=ae hrs;have aZ:=ae hgb;have hns:=HN.o;clear hrs hgb
    by_cases hlt:q<j+k
    ·have lw:q<s.size:=by omega
     have hD:=HA.o q hjq lw hlt;have HK:Hd (j<=q/\q<j+k/\q<s.size):=⟨hjq,hlt,lw⟩;have hlt2:(q:Int)<(s.size:Int):=by omega
     have hw:IntKind.i64.wrap ((q:Int)+1)=((q+1:Nat):Int):=by rw[IntKind.wrap_i64];omega
     clear hlt uy hns hjq;go_wp2;go_quiet (first|(go_at_call 108;exact Calls.quiet_of_same (QX _ _)));go_wp2;go_roundw
     case rel =>
      have:=HK.o;exact⟨q+1,by omega,by omega,(aA.o.drew _).set1 (q+1),bI (aH aZ.o _) _ _⟩
     case measure =>
      have e1:=aA.o.place;have e2:=((aA.o.drew nq).set1 (q+1)).place;rw[e1];exact Nat.lt_of_le_of_lt (Nat.le_of_eq (congrArg (s.size - ·) e2)) (by have:=HK.o;omega)
    ·have HQ:Hd (q=j+k):=by show q=j+k;omega
     have sl2:=lm.o q HQ.o;clear hlt uy hns hjq;have hen:(∃lw:q<s.size,aT s[q]=false/\((s[q].toNat:Int) == 46)=true/\s.data.toList[q]?=some 46/\q<s.size)\/(∃lw:q<s.size,aT s[q]=false/\((s[q].toNat:Int) == 46)=false/\¬s.data.toList[q]?=some 46)\/(¬q<s.size/\decide ((q:Int)<(s.size:Int))=false/\¬s.data.toList[q]?=some 46):=by
      by_cases lw:q<s.size
      ·have hD:=HS.o q HQ.o lw
       cases q46:((s[q].toNat:Int) == 46) with
       | true=>exact .inl ⟨lw,hD,q46,by rw[iR s q lw];congr 1;exact UInt8.toNat_inj.1 (by simp at q46;show s[q].toNat=46;omega),lw⟩
       | false=>exact .inr (.inl ⟨lw,hD,q46,by
         rw[iR s q lw];intro e;have:=Option.some.inj e;rw[this]at q46;exact absurd q46 (by decide)⟩)
      ·exact .inr (.inr ⟨lw,by simp;omega,by rw[List.getElem?_eq_none (by simp;omega)];simp⟩)
     rcases hen with⟨lw,hD,q46,hdt⟩|⟨lw,hD,q46,hdf⟩|⟨uy,hd2,hdf⟩
     all_goals (
      first
       | (have L8:Hd (s.data.toList[q]?=some 46/\q<s.size):=hdt
          clear hdt)
       | (have HDf:Hd (¬s.data.toList[q]?=some 46):=hdf
          clear hdf)
      first
       | (have hlt2:(q:Int)<(s.size:Int):=by omega
          go_wp2;go_quiet (first|(go_at_call 108;exact Calls.quiet_of_same (QX _ _))))
       | (go_wp2
          go_quiet (fail))
      obtain⟨W,hW⟩:=zN (wr.drewN nq);have e0:W.cell? ⟨b,0,none⟩=some (.string s):=by rw[<-hW];exact d0
      have e1:W.cell? ⟨b,1,none⟩=some (.int .i64 (q:Int)):=by rw[<-hW];exact d1
      have ef:W.frozen? ⟨b,1,none⟩=false:=by rw[<-hW];exact df
      have HW:Hd (VS b s q 0 c W/\w.grownBy W (some b)):=by
       show VS b s q 0 c W/\w.grownBy W (some b);rw[<-hW];exact⟨aA.o.drew _,aH aZ.o _⟩
      rw[hW];clear hW d0 d1 df aA aZ;go_wp2;go_quiet (fail);obtain⟨U,hU⟩:=zN (W.drewN nq);have g0:U.cell? ⟨b,0,none⟩=some (.string s):=by rw[<-hU];exact e0
      have g1:U.cell? ⟨b,1,none⟩=some (.int .i64 (q:Int)):=by rw[<-hU];exact e1
      have gf:U.frozen? ⟨b,1,none⟩=false:=by rw[<-hU];exact ef
      have HU:Hd (VS b s q 0 c U/\w.grownBy U (some b)):=by
       show VS b s q 0 c U/\w.grownBy U (some b);rw[<-hU];exact⟨HW.o.1.drew _,aH HW.o.2 _⟩
      rw[hU];clear hU e0 e1 ef HW sl2;have iF:X.size=k:=by
       have h1:=Uy.o;rw[<-L6.o]at h1;simpa using h1
      obtain⟨ad,had⟩:=zN (X.data.toList.all aP);have CD:Hd (∀w,Calls prog 109 #[.string X] w fun e w'=>e=.returned (.bool ad)/\w'=w):=fun w=>by rw[<-had];exact J7 X w (by have:=HN.o;omega)
      have uh:Hd (jc st T=(st && (ad && (decide (1<k) && decide (T[0]?=some 48))))):=by
       show _=_;rw[<-had,L6.o];unfold jc;rw[Uy.o]
      clear had;have L9:Hd (i<=j/\j<=q/\q<=s.size):=by
       have a1:=HJ.o;have a2:=HQ.o;have a3:=HN.o;exact⟨a1.1,by omega,by omega⟩
      have hw:IntKind.i64.wrap ((q:Int)+1)=((q+1:Nat):Int):=by rw[IntKind.wrap_i64];have:=L9.o;omega
      obtain⟨QD,Uz⟩:∃Q:Prop,(aQ st s.data.toList (q+1)=R)=Q:=⟨_,rfl⟩;have UA:=ae Uz;have HZ:Hd (¬k=0->(if jc st T=true then(2,j) else if s.data.toList[j+k]?=some 46 then aQ st s.data.toList (j+k+1) else(0,j+k))=R):=fun hk0=>by
       have:=HST.o;rw[if_neg hk0]at this;exact this
      have HG:Hd (¬k=0->jc st T=false->(s.data.toList[q]?=some 46->QD)/\(¬s.data.toList[q]?=some 46->R=(0,q))):=fun hk0 h=>by
       have:=HZ.o hk0;rw[if_neg (by rw[h];decide),<-HQ.o]at this;exact⟨fun h2=>UA.o.mp (by rw[if_pos h2]at this;exact this),fun h2=>by rw[if_neg h2]at this;exact this.symm⟩
      have hbw:(k=0/\(st=false\/(st=true/\ad=false)\/(st=true/\ad=true)))\/(¬k=0/\∃Ir:0<X.size,(jc st T=false/\(st=false\/(st=true/\ad=false)\/(st=true/\ad=true/\decide ((1:Int)<(X.size:Int))=false)\/(st=true/\ad=true/\decide ((1:Int)<(X.size:Int))=true/\((X[0].toNat:Int) == 48)=false)))\/(jc st T=true/\st=true/\ad=true/\decide ((1:Int)<(X.size:Int))=true/\((X[0].toNat:Int) == 48)=true)):=by
       by_cases hk0:k=0
       ·exact .inl ⟨hk0,by cases st;exact .inl rfl;cases ad;exact .inr (.inl ⟨rfl,rfl⟩);exact .inr (.inr ⟨rfl,rfl⟩)⟩
       ·have Ir:0<X.size:=by omega
        have hT0:T[0]?=some X[0]:=by rw[<-L6.o,iR X 0 Ir]
        have hbz:=uh.o;rw[hT0,<-iF]at hbz;refine .inr ⟨hk0,Ir,?_⟩
        cases st with
        | false=>exact .inl ⟨hbz,.inl rfl⟩
        | true =>
         cases ad with
         | false=>exact .inl ⟨hbz,.inr (.inl ⟨rfl,rfl⟩)⟩
         | true =>
          cases m2:decide ((1:Int)<(X.size:Int)) with
          | false=>exact .inl ⟨by rw[hbz,show decide (1<X.size)=false from by have:=of_decide_eq_false m2;simp;omega];rfl,.inr (.inr (.inl ⟨rfl,rfl,rfl⟩))⟩
          | true =>
           have h1:=of_decide_eq_true m2
           cases m3:((X[0].toNat:Int) == 48) with
           | false =>
            refine .inl ⟨?_,.inr (.inr (.inr ⟨rfl,rfl,rfl,rfl⟩))⟩;rw[hbz,show decide (some X[0]=some (48:UInt8))=false from by
             simp only[decide_eq_false_iff_not];intro e;have:=Option.some.inj e;rw[this]at m3;exact absurd m3 (by decide)]
            simp
           | true =>
            refine .inr ⟨?_,rfl,rfl,rfl,rfl⟩;rw[hbz,show decide (1<X.size)=true from by simp;omega,show X[0]=48 from UInt8.toNat_inj.1 (by simp at m3;show X[0].toNat=48;omega)];decide
      clear Uz
      rcases hbw with⟨hk0,rfl|⟨rfl,rfl⟩|⟨rfl,rfl⟩⟩|⟨hk0,Ir,⟨hb0,rfl|⟨rfl,rfl⟩|⟨rfl,rfl,m2⟩|⟨rfl,rfl,m2,m3⟩⟩|⟨hb1,rfl,rfl,m2,m3⟩⟩
      all_goals (
       first
        | (have m1:=vI (iF.trans hk0)
           have m2:decide ((1:Int)<(X.size:Int))=false:=by simp;omega
           have kz:Hd (R=(2,q)):=by
            show R=(2,q);rw[HQ.o,<-HST.o,if_pos hk0,hk0];rfl
           clear hk0 iF uh HST HZ HG;go_wp2_with (first|(go_at_call 109;refine(CD.o _).mono ?_;rintro e w' ⟨rfl,rfl⟩)|(go_at_call 48;refine(ul b s q c 2 q _ HU.o.1).mono ?_))
           all_goals (
            rintro e w1 ⟨rfl,hr,hg⟩;have hg2:=ag HU.o.2 hg;obtain⟨EE,cc,hr2,hv,hv2⟩:∃(EE:Int) (cc:Nat),VS b s q EE cc w1/\(EE=0->(s.data.toList[q]?=some 46->QD)/\(¬s.data.toList[q]?=some 46->R=(0,q)))/\(EE≠0->R=(EE,cc)):=⟨2,q,hr,fun h=>absurd h (by decide),fun _=>kz.o⟩;clear hr hg g0 g1 gf HU kz))
        | (have m1:=nU (fun h=>hk0 (iF.symm.trans h))
           first
           | (have kz:Hd (R=(2,j)):=by
               show R=(2,j);rw[<-HZ.o hk0,if_pos hb1]
              clear hb1 hk0 iF uh HST HZ HG;go_wp2_with (first|(go_at_call 109;refine(CD.o _).mono ?_;rintro e w' ⟨rfl,rfl⟩)|(go_at_call 48;refine(ul b s q c 2 j _ HU.o.1).mono ?_))
              all_goals (
               rintro e w1 ⟨rfl,hr,hg⟩;have hg2:=ag HU.o.2 hg;obtain⟨EE,cc,hr2,hv,hv2⟩:∃(EE:Int) (cc:Nat),VS b s q EE cc w1/\(EE=0->(s.data.toList[q]?=some 46->QD)/\(¬s.data.toList[q]?=some 46->R=(0,q)))/\(EE≠0->R=(EE,cc)):=⟨2,j,hr,fun h=>absurd h (by decide),fun _=>kz.o⟩;clear hr hg g0 g1 gf HU kz))
           | (have kz:Hd ((s.data.toList[q]?=some 46->QD)/\(¬s.data.toList[q]?=some 46->R=(0,q))):=HG.o hk0 hb0
              clear hb0 hk0 iF uh HST HZ HG;go_wp2_with (go_at_call 109;refine(CD.o _).mono ?_;rintro e w' ⟨rfl,hx⟩;obtain rfl:=hx.symm)
              all_goals (
               obtain⟨EE,cc,hr2,hv,hv2⟩:∃(EE:Int) (cc:Nat),VS b s q EE cc U/\(EE=0->(s.data.toList[q]?=some 46->QD)/\(¬s.data.toList[q]?=some 46->R=(0,q)))/\(EE≠0->R=(EE,cc)):=⟨0,c,HU.o.1,fun _=>kz.o,fun h=>absurd rfl h⟩;have hg2:=HU.o.2;obtain⟨w1,hw1⟩:=zN U;rw[hw1]at hr2 hg2 ⊢;clear hw1 g0 g1 gf HU kz)))
       all_goals (
        have y0:=hr2.c0;have y1:=hr2.c1;have yf:=hr2.f1;have HY:Hd (VS b s q EE cc w1/\w.grownBy w1 (some b)):=⟨hr2,hg2⟩;have HV:=ae hv;have Bh:=ae hv2;clear hr2 hg2 hv hv2
        try go_wp2
        all_goals (
         go_quiet (fail);go_wp2;go_roundw
         case rel =>
          have:=L9.o
          first
           | exact⟨true,q+1,cc,EE,rfl,by omega,by have:=L8.o.2;omega,(HY.o.1.drew _).set1 (q+1),bI (aH HY.o.2 _) _ _,fun h=>⟨fun _=>UA.o.mpr ((HV.o h).1 L8.o.1),fun h=>absurd h (by decide)⟩,Bh.o⟩
           | exact⟨false,q,cc,EE,rfl,by omega,by omega,HY.o.1.drew _,aH HY.o.2 _,fun h=>⟨fun h=>absurd h (by decide),fun _=>(HV.o h).2 HDf.o⟩,Bh.o⟩
         case measure =>
          rw[iT.o];have:=L9.o
          first
           | (have:=L8.o.2
              refine Nat.lt_of_le_of_lt (Nat.le_of_eq (congrArg (fun x=>2*(s.size-x)+1) ((HY.o.1.drew nq).set1 (q+1)).place)) ?_;show 2*(s.size-(q+1))+1<2*(s.size-j)+1;omega)
           | (refine Nat.lt_of_le_of_lt (Nat.le_of_eq (congrArg (fun x=>2*(s.size-x)+0) (HY.o.1.drew nq).place)) ?_
              show 2*(s.size-q)+0<2*(s.size-j)+1;omega)))))
open Go.RowKit
def VR(v:Nat)(y1 y2 y3:Int)(x4 x5:ByteArray)(w:World):Prop:=w.heap[v]?=some (.cells #[.int .i64 y1,.int .i64 y2,.int .i64 y3,.string x4,.string x5] 61 (0,0))
theorem VR.cells{v:Nat}{y1 y2 y3:Int}{x4 x5:ByteArray}{w:World}(h:VR v y1 y2 y3 x4 x5 w):w.cell? ⟨v,0,none⟩=some (.int .i64 y1)/\w.cell? ⟨v,1,none⟩=some (.int .i64 y2)/\w.cell? ⟨v,2,none⟩=some (.int .i64 y3)/\w.cell? ⟨v,3,none⟩=some (.string x4)/\w.cell? ⟨v,4,none⟩=some (.string x5) :=
 ⟨by rw[ah h];rfl,by rw[ah h];rfl,by rw[ah h];rfl,by rw[ah h];rfl,by rw[ah h];rfl⟩
theorem VR.f{v:Nat}{y1 y2 y3:Int}{x4 x5:ByteArray}{w:World}(h:VR v y1 y2 y3 x4 x5 w)(o:Nat):w.frozen? ⟨v,o,none⟩=false:=Lib.frozen_of_heap h o
theorem VR.grow{b v:Nat}{y1 y2 y3:Int}{x4 x5:ByteArray}{w w':World}(h:VR v y1 y2 y3 x4 x5 w)(hg:w.grownBy w' (some b))(hn:v≠b):VR v y1 y2 y3 x4 x5 w':=by
 unfold VR at h ⊢;rw[hg.block v ((aC h)) (by simpa using hn)];exact h
theorem VR.set3{v:Nat}{y1 y2 y3:Int}{x4 x5:ByteArray}{w:World}(h:VR v y1 y2 y3 x4 x5 w)(z:ByteArray):VR v y1 y2 y3 z x5 (w.setCell ⟨v,3,none⟩ (.string z)):=by
 unfold VR at h ⊢;simp[World.setCell,Array.getElem?_modify,h]
theorem VR.set4{v:Nat}{y1 y2 y3:Int}{x4 x5:ByteArray}{w:World}(h:VR v y1 y2 y3 x4 x5 w)(z:ByteArray):VR v y1 y2 y3 x4 z (w.setCell ⟨v,4,none⟩ (.string z)):=by
 unfold VR at h ⊢;simp[World.setCell,Array.getElem?_modify,h]
theorem VR.other{v u:Nat}{y1 y2 y3:Int}{x4 x5:ByteArray}{w:World}(h:VR v y1 y2 y3 x4 x5 w)(hn:v≠u)(o:Nat)(x:Value):VR v y1 y2 y3 x4 x5 (w.setCell ⟨u,o,none⟩ x):=by
 unfold VR at h ⊢;rw[<-h];exact heap_setCell_other w _ v x hn
theorem vY{w:World}{A:Nat}{z1 z2 z3:Int}{z4 z5:ByteArray}(h:VR A z1 z2 z3 z4 z5 w)(y1 y2 y3:Int)(x4 x5:ByteArray):VR A y1 y2 y3 x4 x5 (vC w A y1 y2 y3 x4 x5):=by
 unfold VR at h ⊢;unfold vC;simp[World.setCell,Array.getElem?_modify,h]
theorem VS.other{b v:Nat}{s:ByteArray}{i:Nat}{E:Int}{a:Nat}{w:World}(h:VS b s i E a w)(hn:b≠v)(o:Nat)(x:Value):VS b s i E a (w.setCell ⟨v,o,none⟩ x):=by
 unfold VS at h ⊢;rw[<-h];exact heap_setCell_other w _ b x hn
theorem G2.set1{b v:Nat}{w w1:World}(h:G2 b v w w1)(o:Nat)(x:Value):G2 b v w (w1.setCell ⟨b,o,none⟩ x) :=
 ⟨h.os,h.tape,h.output,by simpa [World.setCell] using h.size,fun k hk h1 h2=>by rw[<-h.block k hk h1 h2];exact heap_setCell_other w1 _ k x (fun e=>h1 e)⟩
def adu(b v:Nat)(s:ByteArray)(i:Nat)(y1 y2 y3:Int)(w w':World):Prop :=
 ∃(j:Nat) (E:Int) (c:Nat) (P B:ByteArray),VS b s j E c w'/\VR v y1 y2 y3 P B w'/\G2 b v w w'/\E=(aN s.data.toList i).1/\(E=0->P=⟨(aN s.data.toList i).2.2.1.toArray⟩/\B=⟨(aN s.data.toList i).2.2.2.toArray⟩/\j=(aN s.data.toList i).2.1/\j<=s.size)/\(E≠0->c=(aN s.data.toList i).2.1)
theorem E8(b v:Nat)(s:ByteArray)(i:Nat)(E:Int)(hE:E≠0)(a:Nat)(w:World)(h:VS b s i E a w) :
  Calls prog 47 #[.pointer (some ⟨b,0,none⟩),.pointer (some ⟨v,0,none⟩)] w fun e w'=>e=.returned (.tuple #[])/\∃n,w'=w.drewN n:=by
 have h0:=h.c0;have h1:=h.c1;have h2:=h.c2;have HR:=ae h;have hn:(E == 0)=false:=by simpa using hE
 clear h hE;go_enter func47,ntmps47;go_wp2;go_quiet (fail);go_wp2;obtain⟨W,hW⟩:=zN (w.drewN nq);have HW:=ae hW.symm;have e0:W.cell? ⟨b,0,none⟩=some (.string s):=by rw[<-hW];exact h0
 have e1:W.cell? ⟨b,1,none⟩=some (.int .i64 (i:Int)):=by rw[<-hW];exact h1
 have e2:W.cell? ⟨b,2,none⟩=some (.int .i64 E):=by rw[<-hW];exact h2
 rw[hW];clear hW h0 h1 h2;go_quiet (fail);go_wp2
 go_end0
 exact⟨rfl,_,by rw[HW.o,World.drewN_drewN]⟩
theorem UB(s:ByteArray)(j:Nat)(c:UInt8)(z:Int)(hz:(c.toNat:Int)=z):(∃h:j<s.size,((s[j].toNat:Int) == z)=true/\s.data.toList[j]?=some c)\/(∃h:j<s.size,((s[j].toNat:Int) == z)=false/\¬s.data.toList[j]?=some c)\/(¬j<s.size/\decide ((j:Int)<(s.size:Int))=false/\¬s.data.toList[j]?=some c):=by
 by_cases h:j<s.size
 ·rw[iR s j h]
  cases hc:((s[j].toNat:Int) == z) with
  | true=>exact .inl ⟨h,hc,by rw[show s[j]=c from UInt8.toNat_inj.1 (by have:=eq_of_beq hc;omega)]⟩
  | false =>
   refine .inr (.inl ⟨h,hc,fun e=>?_⟩);rw[Option.some.inj e,hz]at hc;simp at hc
 ·exact .inr (.inr ⟨h,by simp;omega,by rw[List.getElem?_eq_none (by simp;omega)];simp⟩)
theorem adv(b v:Nat)(s:ByteArray)(i:Nat)(a:Nat)(y1 y2 y3:Int)(w:World)(hi:i<=s.size)(h:VS b s i 0 a w)(hv:VR v y1 y2 y3 ⟨#[]⟩ ⟨#[]⟩ w)(hbv:b≠v)(hs:s.size<2 ^ 62) :
  Calls prog 47 #[.pointer (some ⟨b,0,none⟩),.pointer (some ⟨v,0,none⟩)] w fun e w'=>e=.returned (.tuple #[])/\adu b v s i y1 y2 y3 w w':=by
 have bM:Hd (s.data.toList.length=s.size):=by show s.data.toList.length=s.size;simp
 have PP:=ae (fun st i a w (hi:i<=s.size) (h:VS b s i 0 a w)=>Ux st b s i a w hi h hs);have HI:=ae h;have Fa:=ae hv;have fV:=ae hbv;have mV:=ae hi;have HS:=ae hs;have GET:=ae (iR s);have g0:=h.c0;have g1:=h.c1;have g2:=h.c2;clear h hv hbv hi hs;go_enter func47,ntmps47
 rcases UB s i 45 45 rfl with⟨hlt1,hc1,ho1⟩|⟨hlt1,hc1,hn1⟩|⟨hlt1,hc1,hn1⟩
 all_goals (
  first
   | (have hl2:((i:Nat):Int)<(s.size:Int):=by omega)
   | skip
  go_wp2;go_quiet (fail);obtain⟨U1,hU⟩:=zN ((w).drewN nq);have dI:Hd (VS b s (i) 0 a U1):=by show VS _ _ _ _ _ U1;rw[<-hU];exact HI.o.drew _
  have su:Hd (VR v y1 y2 y3 ⟨#[]⟩ ⟨#[]⟩ U1):=by show VR _ _ _ _ _ _ U1;rw[<-hU];exact Fa.o
  have sD:Hd (G2 b v w U1):=by show G2 b v w U1;rw[<-hU];exact(G2.refl b v w).drew _
  try rw[hU]
  clear hU g0 g1 g2
  first
   | (have vZ:Hd (aX 45 true s.data.toList (i)=((aQ true s.data.toList (i+1)).1,(aQ true s.data.toList (i+1)).2,gU true s.data.toList (i+1))):=rO (st:=true) ho1
      have Fb:=ae hlt1;clear hc1 ho1;have k0:=dI.o.c0;have k1:=dI.o.c1;have k2:=dI.o.c2;have kf:=dI.o.f1;have hw:IntKind.i64.wrap ((i:Int)+1)=((i+1:Nat):Int):=by rw[IntKind.wrap_i64];have:=HS.o;have:=Fb.o;omega
      go_wp2_with (first|(go_at_call 77;refine(PP.o true (i+1) _ _ Fb.o (dI.o.set1 (i+1))).mono ?_));rintro e u1 ⟨V1,j1,E1,c1,rfl,hvs,hg,hE,hok,herr⟩;have lu:=ae hvs;have xY:=ae ((su.o.other (Ne.symm fV.o) _ _).grow hg (Ne.symm fV.o));have Iu:=ae ((sD.o.set1 _ _).step hg);have gG:Hd (E1=(aQ true s.data.toList (i+1)).1/\(E1=0->V1=⟨(aO s.data.toList (i+1) (j1-(i+1))).toArray⟩/\j1=(aQ true s.data.toList (i+1)).2/\j1<=s.size)/\(E1≠0->c1=(aQ true s.data.toList (i+1)).2)):=⟨hE,hok,herr⟩;have kv:=xY.o.f;obtain⟨q0,q1,q2,q3,q4⟩:=xY.o.cells;clear hvs hg hE hok herr k0 k1 k2 kf hw;obtain⟨W1,hW⟩:=zN (u1.setCell ⟨v,3,none⟩ (.string V1));have HW1:Hd (VS b s j1 E1 c1 W1):=by show VS _ _ _ _ _ W1;rw[<-hW];exact lu.o.other fV.o _ _
      have uz:Hd (VR v y1 y2 y3 V1 ⟨#[]⟩ W1):=by show VR _ _ _ _ _ _ W1;rw[<-hW];exact xY.o.set3 _
      have Md:Hd (G2 b v w W1):=by show G2 b v w W1;rw[<-hW];exact Iu.o.set _ _
      go_wp2
      try rw[hW]
      clear hW kv q0 q1 q2 q3 q4;obtain⟨bz,hz⟩:=zN ((E1 == 0))
      rcases bz with - | -
      ·have HZ:Hd (¬E1=0):=by show ¬E1=0;simpa using hz
       have g0:=HW1.o.c0;have g1:=HW1.o.c1;have g2:=HW1.o.c2;go_quiet (fail);go_wp2
       go_end0
       have h9:¬(aQ true s.data.toList (i+1)).1=0:=fun e=>HZ.o (gG.o.1.trans e)
       refine⟨rfl,j1,E1,c1,V1,⟨#[]⟩,HW1.o.drew _,uz.o,Md.o.drew _,?_,fun h=>absurd h HZ.o,fun _=>?_⟩
       ·unfold aN;rw[vZ.o];simp only[if_neg h9];exact gG.o.1
       ·unfold aN;rw[vZ.o];simp only[if_neg h9];exact gG.o.2.2 HZ.o
      have h0:E1=0:=by simpa using hz
      subst h0;clear hz;obtain⟨hk1,hk2,hk3⟩:=gG.o.2.1 rfl;obtain⟨jx,cx,VX,LX,hx,BK,hox,hpx,Me⟩:∃jx cx VX LX,VS b s jx 0 cx W1/\VR v y1 y2 y3 VX ⟨#[]⟩ W1/\aX 45 true s.data.toList i=(0,jx,LX)/\VX=⟨LX.toArray⟩/\jx<=s.size:=⟨j1,c1,V1,aO s.data.toList (i+1) (j1-(i+1)),HW1.o,uz.o,by
       have h9:=gG.o.1.symm;rw[vZ.o,h9,hk2];unfold gU;rw[if_pos h9],hk1,hk3⟩
      clear hk1 hk2 hk3 gG HW1 uz lu xY Iu)
   | (obtain⟨jx,cx,VX,LX,hx,BK,hox,hpx,Me⟩:∃jx cx VX LX,VS b s jx 0 cx U1/\VR v y1 y2 y3 VX ⟨#[]⟩ U1/\aX 45 true s.data.toList i=(0,jx,LX)/\VX=⟨LX.toArray⟩/\jx<=s.size:=⟨i,a,⟨#[]⟩,[],dI.o,su.o,oU hn1,rfl,mV.o⟩
      obtain⟨W1,hW⟩:=zN U1;have Md:=ae (hW ▸ sD.o);rw[hW]at hx BK ⊢;clear hW hc1 hn1)
  have HW1:=ae hx;have uz:=ae BK;have dB:=ae hox;have pq:=ae hpx;have uq:=ae Me;have g0:=HW1.o.c0;have g1:=HW1.o.c1;have g2:=HW1.o.c2;clear hx BK hox hpx Me
  try clear hl2
  clear hlt1
  rcases UB s jx 43 43 rfl with⟨hlt3,hc3,ho3⟩|⟨hlt3,hc3,hn3⟩|⟨hlt3,hc3,hn3⟩
  all_goals (
   first
    | (have hl2:((jx:Nat):Int)<(s.size:Int):=by omega)
    | skip
   try go_wp2
   go_quiet (fail);obtain⟨U3,hU⟩:=zN ((W1).drewN nq);have fH:Hd (VS b s jx 0 cx U3):=by show VS _ _ _ _ _ U3;rw[<-hU];exact HW1.o.drew _
   have xZ:Hd (VR v y1 y2 y3 VX ⟨#[]⟩ U3):=by show VR _ _ _ _ _ _ U3;rw[<-hU];exact uz.o
   have x8:Hd (G2 b v w U3):=by show G2 b v w U3;rw[<-hU];exact Md.o.drew _
   have k0:=fH.o.c0;have k1:=fH.o.c1;have k2:=fH.o.c2;have kf:=fH.o.f1
   try rw[hU]
   clear hU g0 g1 g2
   first
    | (have cZ:Hd (aX 43 false s.data.toList jx=((aQ false s.data.toList (jx+1)).1,(aQ false s.data.toList (jx+1)).2,gU false s.data.toList (jx+1))):=rO (st:=false) ho3
       have Fe:=ae hlt3;clear hc3 ho3;have hw:IntKind.i64.wrap (((jx:Nat):Int)+1)=((jx+1:Nat):Int):=by rw[IntKind.wrap_i64];have:=HS.o;have:=Fe.o;omega
       go_wp2_with (first|(go_at_call 77;refine(PP.o false (jx+1) _ _ Fe.o (fH.o.set1 (jx+1))).mono ?_));rintro e u3 ⟨V3,j3,E3,c3,rfl,hvs,hg,hE,hok,herr⟩;have HF3:=ae hvs;have zx:=ae ((xZ.o.other (Ne.symm fV.o) _ _).grow hg (Ne.symm fV.o));have MB:=ae ((x8.o.set1 _ _).step hg);have jf:Hd (E3=(aQ false s.data.toList (jx+1)).1/\(E3=0->V3=⟨(aO s.data.toList (jx+1) (j3-(jx+1))).toArray⟩/\j3=(aQ false s.data.toList (jx+1)).2/\j3<=s.size)/\(E3≠0->c3=(aQ false s.data.toList (jx+1)).2)):=⟨hE,hok,herr⟩;have kv:=zx.o.f;obtain⟨q0,q1,q2,q3,q4⟩:=zx.o.cells;clear hvs hg hE hok herr k0 k1 k2 kf hw;go_wp2
       go_end0
       refine⟨rfl,j3,E3,c3,VX,V3,HF3.o.other fV.o _ _,zx.o.set4 _,MB.o.set _ _,?_,?_,?_⟩
       ·rw[jf.o.1];unfold aN;rw[dB.o];simp only[if_true];rw[cZ.o];simp only;split<;>simp_all
       ·intro h0;obtain⟨e1,e2,e3⟩:=jf.o.2.1 h0;have h9:=jf.o.1.symm.trans h0;have hp:gU false s.data.toList (jx+1)=aO s.data.toList (jx+1) ((aQ false s.data.toList (jx+1)).2-(jx+1)):=by unfold gU;rw[if_pos h9]
        unfold aN;rw[dB.o];simp only[if_true];rw[cZ.o];simp only[if_pos h9];exact⟨pq.o,by rw[e1,e2,hp],e2,e3⟩
       ·intro h0;have h9:¬(aQ false s.data.toList (jx+1)).1=0:=fun e=>h0 (jf.o.1.trans e)
        unfold aN;rw[dB.o];simp only[if_true];rw[cZ.o];simp only[if_neg h9];exact jf.o.2.2 h0)
    | (have cZ:Hd (aX 43 false s.data.toList jx=(0,jx,[])):=oU hn3
       clear hc3 hn3;go_wp2
       go_end0
       refine⟨rfl,jx,0,_,VX,⟨#[]⟩,fH.o,xZ.o,x8.o,?_,?_,fun h=>absurd rfl h⟩
       ·unfold aN;rw[dB.o];simp only[if_true];rw[cZ.o];simp only[if_true]
       ·intro _;unfold aN;rw[dB.o];simp only[if_true];rw[cZ.o];simp only[if_true];exact⟨pq.o,by first|trivial|rfl,by first|trivial|rfl,uq.o⟩)))
open Go.RowKit
structure RV(w:World)(A:Nat)(s:ByteArray)(j:Nat)(E:Int)(c:Nat)(y1 y2 y3:Int)(P B:ByteArray)(u:World):Prop where
 vs:VS (A+1) s j E c u
 vr:VR (A+2) y1 y2 y3 P B u
 vz:VR A 0 0 0 ⟨#[]⟩ ⟨#[]⟩ u
 gb:w.grownBy u none
 le:w.heap.size<=A
theorem RV.drew{w:World}{A:Nat}{s:ByteArray}{j:Nat}{E:Int}{c:Nat}{y1 y2 y3:Int}{P B:ByteArray}{u:World}(h:RV w A s j E c y1 y2 y3 P B u)(n:Nat):RV w A s j E c y1 y2 y3 P B (u.drewN n) :=
 ⟨h.vs.drew n,h.vr,h.vz,aH h.gb n,h.le⟩
theorem RV.call{w:World}{A:Nat}{s:ByteArray}{j:Nat}{E:Int}{c:Nat}{y1 y2 y3:Int}{P B:ByteArray}{u u':World}(h:RV w A s j E c y1 y2 y3 P B u)(hg:u.grownBy u' (some (A+1))){j':Nat}{E':Int}{c':Nat}(hv:VS (A+1) s j' E' c' u'):RV w A s j' E' c' y1 y2 y3 P B u' :=
 ⟨hv,h.vr.grow hg (by omega),h.vz.grow hg (by omega),⟨hg.os.trans h.gb.os,hg.tape.trans h.gb.tape,hg.output.trans h.gb.output,Nat.le_trans h.gb.size hg.size,fun k hk _=>(hg.block k (Nat.lt_of_lt_of_le hk h.gb.size) (by have:=h.le;simp;omega)).trans (h.gb.block k hk (by simp))⟩,h.le⟩
theorem RV.two{w:World}{A:Nat}{s:ByteArray}{j:Nat}{E:Int}{c:Nat}{y1 y2 y3:Int}{P B:ByteArray}{u u':World}(h:RV w A s j E c y1 y2 y3 P B u)(hg:G2 (A+1) (A+2) u u'){j':Nat}{E':Int}{c':Nat}{P' B':ByteArray}(hv:VS (A+1) s j' E' c' u')(hr:VR (A+2) y1 y2 y3 P' B' u'):RV w A s j' E' c' y1 y2 y3 P' B' u' :=
 ⟨hv,hr,by have:=h.vz;unfold VR at this ⊢;rw[hg.block A ((aC this)) (by omega) (by omega)];exact this,⟨hg.os.trans h.gb.os,hg.tape.trans h.gb.tape,hg.output.trans h.gb.output,Nat.le_trans h.gb.size hg.size,fun k hk _=>(hg.block k (Nat.lt_of_lt_of_le hk h.gb.size) (by have:=h.le;omega) (by have:=h.le;omega)).trans (h.gb.block k hk (by simp))⟩,h.le⟩
theorem VR.set0{v:Nat}{y1 y2 y3:Int}{x4 x5:ByteArray}{w:World}(h:VR v y1 y2 y3 x4 x5 w)(z:Int):VR v z y2 y3 x4 x5 (w.setCell ⟨v,0,none⟩ (.int .i64 z)):=by
 unfold VR at h ⊢;simp[World.setCell,Array.getElem?_modify,h]
theorem VR.set1{v:Nat}{y1 y2 y3:Int}{x4 x5:ByteArray}{w:World}(h:VR v y1 y2 y3 x4 x5 w)(z:Int):VR v y1 z y3 x4 x5 (w.setCell ⟨v,1,none⟩ (.int .i64 z)):=by
 unfold VR at h ⊢;simp[World.setCell,Array.getElem?_modify,h]
theorem VR.set2{v:Nat}{y1 y2 y3:Int}{x4 x5:ByteArray}{w:World}(h:VR v y1 y2 y3 x4 x5 w)(z:Int):VR v y1 y2 z x4 x5 (w.setCell ⟨v,2,none⟩ (.int .i64 z)):=by
 unfold VR at h ⊢;simp[World.setCell,Array.getElem?_modify,h]
theorem RV.put0{w:World}{A:Nat}{s:ByteArray}{j:Nat}{E:Int}{c:Nat}{y1 y2 y3:Int}{P B:ByteArray}{u:World}(h:RV w A s j E c y1 y2 y3 P B u)(x:Int):RV w A s j E c x y2 y3 P B (u.setCell ⟨A+2,0,none⟩ (.int .i64 x)) :=
 ⟨h.vs.other (by omega) _ _,h.vr.set0 x,h.vz.other (by omega) _ _,jR h.gb (by have:=h.le;omega) _ _,h.le⟩
theorem RV.put1{w:World}{A:Nat}{s:ByteArray}{j:Nat}{E:Int}{c:Nat}{y1 y2 y3:Int}{P B:ByteArray}{u:World}(h:RV w A s j E c y1 y2 y3 P B u)(x:Int):RV w A s j E c y1 x y3 P B (u.setCell ⟨A+2,1,none⟩ (.int .i64 x)) :=
 ⟨h.vs.other (by omega) _ _,h.vr.set1 x,h.vz.other (by omega) _ _,jR h.gb (by have:=h.le;omega) _ _,h.le⟩
theorem RV.put2{w:World}{A:Nat}{s:ByteArray}{j:Nat}{E:Int}{c:Nat}{y1 y2 y3:Int}{P B:ByteArray}{u:World}(h:RV w A s j E c y1 y2 y3 P B u)(x:Int):RV w A s j E c y1 y2 x P B (u.setCell ⟨A+2,2,none⟩ (.int .i64 x)) :=
 ⟨h.vs.other (by omega) _ _,h.vr.set2 x,h.vz.other (by omega) _ _,jR h.gb (by have:=h.le;omega) _ _,h.le⟩
theorem RV.born(w:World)(s:ByteArray):RV w w.heap.size s 0 0 0 0 0 0 ⟨#[]⟩ ⟨#[]⟩ (((w.alloc (.cells #[.int .i64 0,.int .i64 0,.int .i64 0,.string ⟨#[]⟩,.string ⟨#[]⟩] 61)).alloc (.cells #[.string s,.int .i64 0,.int .i64 0,.int .i64 0] 93)).alloc (.cells #[.int .i64 0,.int .i64 0,.int .i64 0,.string ⟨#[]⟩,.string ⟨#[]⟩] 61)):=by
 refine⟨?_,?_,?_,ak (ak (ak (ai w none) _) _) _,Nat.le_refl _⟩
 ·unfold VS;rw[Lib.alloc_old _ _ _ (by simp)];exact Hu w _ _
 ·unfold VR;have:=Hu (w.alloc (.cells #[.int .i64 0,.int .i64 0,.int .i64 0,.string ⟨#[]⟩,.string ⟨#[]⟩] 61)) (.cells #[.string s,.int .i64 0,.int .i64 0,.int .i64 0] 93) (.cells #[.int .i64 0,.int .i64 0,.int .i64 0,.string ⟨#[]⟩,.string ⟨#[]⟩] 61);simpa using this
 ·unfold VR;rw[Lib.alloc_old _ _ _ (by simp;omega),Lib.alloc_old _ _ _ (by simp)];exact heap_alloc_new w _
theorem MC(s:ByteArray)(w:World)(hs:s.size<2 ^ 62) :
  Calls prog 23 #[.string s] w fun e w'=>e=.returned (.tuple #[eY (ig s.data.toList).2.2,.int .i64 (ig s.data.toList).1,.int .i64 ((ig s.data.toList).2.1:Nat)])/\w.grownBy w' none:=by
 by_cases h100:100<s.size
 ·have hp:ig s.data.toList=(1,0,zeroV):=by unfold ig;rw[if_pos (by simpa using h100)]
  rw[hp];clear hp;go_enter func23,ntmps23;go_wp2;exact bodyPost_ret (qL (p:=2) (u:=3) (r:=4) rfl _ _ w.heap.size _ _ (0,0) _ rfl (heap_alloc_new w _) underlying61 rfl (by kernel_rfl)) rfl ⟨rfl,ak (ai w none) _⟩
 ·have hp:ig s.data.toList=dK s.data.toList:=by unfold ig;rw[if_neg (by simpa using h100)]
  rw[hp];clear hp;obtain⟨l,hl⟩:∃l,l=s.data.toList:=⟨_,rfl⟩;have HL:Hd (l=s.data.toList/\l.length=s.size):=⟨hl,by rw[hl];simp⟩;have CN:=ae (fun b i a w (hi:i<=s.size) (h:VS b s i 0 a w)=>Tn b s i a w hi h hs);have MY:Hd (∀b i a w,l[i]?=some 46->VS b s i 0 a w->Calls prog 46 #[.pointer (some ⟨b,0,none⟩),.int .u8 46] w fun e w'=>e=.returned (.tuple #[])/\VS b s (i+1) 0 a w'/\w.grownBy w' (some b)):=fun b i a w hc h=>ab7 b s i 0 a 46 w (by rw[<-hl];exact hc) h hs
  have MN:Hd (∀b i a w,i<=s.size->¬l[i]?=some 46->VS b s i 0 a w->Calls prog 46 #[.pointer (some ⟨b,0,none⟩),.int .u8 46] w fun e w'=>e=.returned (.tuple #[])/\VS b s i 2 i w'/\w.grownBy w' (some b)):=fun b i a w hi hc h=>ab8 b s i a 46 w hi (by rw[<-hl];exact hc) h hs
  have CT:=ae (fun b v i a y1 y2 y3 w (hi:i<=s.size) (h1:VS b s i 0 a w) (h2:VR v y1 y2 y3 ⟨#[]⟩ ⟨#[]⟩ w) (h3:b≠v)=>adv b v s i a y1 y2 y3 w hi h1 h2 h3 hs);have HB:=ae (RV.born w s);have oV:=Tj l;have hnr:=S9 l;obtain⟨R,hR⟩:=zN (bT l);obtain⟨X,hX⟩:=zN (dK l);rw[hR]at oV hnr;rw[hX]at oV;rw[<-hl,hX];have HV:=ae oV;have HR0:=ae hnr;have HS:=ae hs;clear hl oV hnr hR hX hs;go_enter func23,ntmps23;go_wp2_with (go_at_call 45;refine(CN.o _ 0 0 _ (Nat.zero_le _) HB.o.vs).mono ?_);rintro e u1 ⟨x1,j1,E1,c1,rfl,hvs,hg,hE,hok,herr⟩;obtain⟨A,hA⟩:=zN (w.heap.size);rw[hA]at HB hvs hg;rw[hA];have HA1:=ae (HB.o.call hg hvs);have gG:Hd (E1=(rdNum l 0).1/\(E1=0->x1=(rdNum l 0).2.1/\j1=(rdNum l 0).2.2/\j1<=s.size)/\(E1≠0->c1=(rdNum l 0).2.2)):=by rw[HL.o.1];exact⟨hE,hok,herr⟩
  clear hA hvs hg hE hok herr HB;obtain⟨U1,MF⟩:=zN (u1.setCell ⟨A+2,0,none⟩ (.int .i64 x1));have dI:Hd (RV w A s j1 E1 c1 x1 0 0 ⟨#[]⟩ ⟨#[]⟩ U1):=by show RV _ _ _ _ _ _ _ _ _ _ _ U1;rw[<-MF];exact HA1.o.put0 x1
  obtain⟨q0,q1,q2,q3,q4⟩:=HA1.o.vr.cells;have qf:=HA1.o.vr.f;have f0:=dI.o.vs.c0;have f1:=dI.o.vs.c1;have f2:=dI.o.vs.c2;have f3:=dI.o.vs.c3
  cases hz1:(E1 == 0) with
  | false =>
   have HZ:Hd (E1≠0):=by show E1≠0;simpa using hz1
   have FIN:Hd (X=(E1,c1,zeroV)):=by
    show X=_;have h9:¬(rdNum l 0).1=0:=fun e=>HZ.o (gG.o.1.trans e)
    have hr:=HR0.o;rw[if_neg h9,<-gG.o.1,<-gG.o.2.2 HZ.o]at hr;rw[HV.o,hr,if_neg HZ.o]
   go_wp2_with (go_at_call 47;refine(E8 (A+1) (A+2) s j1 E1 HZ.o c1 _ dI.o.vs).mono ?_);rintro e t1 ⟨rfl,n,hn⟩;have HT:Hd (RV w A s j1 E1 c1 x1 0 0 ⟨#[]⟩ ⟨#[]⟩ t1):=by show RV _ _ _ _ _ _ _ _ _ _ _ t1;rw[hn];exact dI.o.drew n
   clear hn f0 f1 f2 f3;have f0:=HT.o.vs.c0;have f1:=HT.o.vs.c1;have f2:=HT.o.vs.c2;have f3:=HT.o.vs.c3;obtain⟨z0,z1,z2,z3,z4⟩:=HT.o.vz.cells;have zf:=HT.o.vz.f;go_wp2
   go_region
   go_wp2;refine bodyPost_ret (qL (p:=2) (u:=3) (r:=4) rfl _ _ A _ _ (0,0) _ rfl (vY HT.o.vz 0 0 0 ⟨#[]⟩ ⟨#[]⟩) underlying61 rfl (by kernel_rfl)) rfl ⟨?_,aH (qM HT.o.gb HT.o.le 0 0 0 ⟨#[]⟩ ⟨#[]⟩) 1⟩;rw[FIN.o];rfl
  | true =>
   have h0:E1=0:=by simpa using hz1
   subst h0;clear hz1;have rP:=ae ((gG.o.2.1 rfl).2.2);have HR1:Hd (R=xK l j1 x1):=by
    show R=_;obtain⟨e1,e2,-⟩:=gG.o.2.1 rfl;have hr:=HR0.o;rw[if_pos gG.o.1.symm,<-e1,<-e2]at hr;exact hr
   clear gG HR0
   cases hc1:decide (l[j1]?=some 46) with
   | false =>
    have hc':=of_decide_eq_false hc1;have HZ:Hd ((2:Int)≠0):=by show(2:Int)≠0;decide
    have FIN:Hd (X=(2,j1,zeroV)):=by
     show X=_;have hr:=HR1.o;unfold xK at hr;rw[if_neg hc']at hr;rw[HV.o,hr];rfl
    have CM:=ae (MN.o _ _ _ _ rP.o hc' dI.o.vs);clear hc1 hc';go_wp2_with (go_at_call 46;refine CM.o.mono ?_);rintro e v1 ⟨rfl,hvs,hg⟩;have HM:=ae (dI.o.call hg hvs);clear hvs hg f0 f1 f2 f3 q0 q1 q2 q3 q4 qf MF;have f0:=HM.o.vs.c0;have f1:=HM.o.vs.c1;have f2:=HM.o.vs.c2;have f3:=HM.o.vs.c3;go_wp2_with (go_at_call 47;refine(E8 (A+1) (A+2) s j1 2 HZ.o j1 _ HM.o.vs).mono ?_);rintro e t1 ⟨rfl,n,hn⟩;have HT:Hd (RV w A s j1 2 j1 x1 0 0 ⟨#[]⟩ ⟨#[]⟩ t1):=by show RV _ _ _ _ _ _ _ _ _ _ _ t1;rw[hn];exact HM.o.drew n
    clear hn f0 f1 f2 f3;have f0:=HT.o.vs.c0;have f1:=HT.o.vs.c1;have f2:=HT.o.vs.c2;have f3:=HT.o.vs.c3;obtain⟨z0,z1,z2,z3,z4⟩:=HT.o.vz.cells;have zf:=HT.o.vz.f;go_wp2
    go_region
    go_wp2;refine bodyPost_ret (qL (p:=2) (u:=3) (r:=4) rfl _ _ A _ _ (0,0) _ rfl (vY HT.o.vz 0 0 0 ⟨#[]⟩ ⟨#[]⟩) underlying61 rfl (by kernel_rfl)) rfl ⟨?_,aH (qM HT.o.gb HT.o.le 0 0 0 ⟨#[]⟩ ⟨#[]⟩) 1⟩;rw[FIN.o];rfl
   | true =>
    have hc':=of_decide_eq_true hc1;have HRn:Hd (R=if(rdNum l (j1+1)).1=0 then uj l (rdNum l (j1+1)).2.2 x1 (rdNum l (j1+1)).2.1 else((rdNum l (j1+1)).1,(rdNum l (j1+1)).2.2,0,0,0)):=by
     show R=_;have hr:=HR1.o;unfold xK at hr;rw[if_pos hc']at hr;exact hr
    have iG:Hd (j1+1<=s.size):=by have:=(List.getElem?_eq_some_iff.1 hc').1;rw[HL.o.2]at this;exact this
    have CM:=ae (MY.o _ _ _ _ hc' dI.o.vs);clear hc1 hc';go_wp2_with (go_at_call 46;refine CM.o.mono ?_);rintro e v2 ⟨rfl,hvs,hg⟩;have BL:=ae (dI.o.call hg hvs);clear hvs hg f0 f1 f2 f3 q0 q1 q2 q3 q4 qf MF HR1 CM;have f0:=BL.o.vs.c0;have f1:=BL.o.vs.c1;have f2:=BL.o.vs.c2;have f3:=BL.o.vs.c3;go_wp2_with (go_at_call 45;refine(CN.o _ (j1+1) c1 _ iG.o BL.o.vs).mono ?_);rintro e u2 ⟨x2,j2,E2,c2,rfl,hvs,hg,hE,hok,herr⟩;have HA2:=ae (BL.o.call hg hvs);have gV:Hd (E2=(rdNum l (j1+1)).1/\(E2=0->x2=(rdNum l (j1+1)).2.1/\j2=(rdNum l (j1+1)).2.2/\j2<=s.size)/\(E2≠0->c2=(rdNum l (j1+1)).2.2)):=by rw[HL.o.1];exact⟨hE,hok,herr⟩
    clear hvs hg hE hok herr f0 f1 f2 f3;obtain⟨U2,MG⟩:=zN (u2.setCell ⟨A+2,1,none⟩ (.int .i64 x2));have dU:Hd (RV w A s j2 E2 c2 x1 x2 0 ⟨#[]⟩ ⟨#[]⟩ U2):=by show RV _ _ _ _ _ _ _ _ _ _ _ U2;rw[<-MG];exact HA2.o.put1 x2
    obtain⟨q0,q1,q2,q3,q4⟩:=HA2.o.vr.cells;have qf:=HA2.o.vr.f;have f0:=dU.o.vs.c0;have f1:=dU.o.vs.c1;have f2:=dU.o.vs.c2;have f3:=dU.o.vs.c3
    cases hz2:(E2 == 0) with
    | false =>
     have HZ:Hd (E2≠0):=by show E2≠0;simpa using hz2
     have FIN:Hd (X=(E2,c2,zeroV)):=by
      show X=_;have h9:¬(rdNum l (j1+1)).1=0:=fun e=>HZ.o (gV.o.1.trans e)
      have hr:=HRn.o;rw[if_neg h9,<-gV.o.1,<-gV.o.2.2 HZ.o]at hr;rw[HV.o,hr,if_neg HZ.o]
     go_wp2_with (go_at_call 47;refine(E8 (A+1) (A+2) s j2 E2 HZ.o c2 _ dU.o.vs).mono ?_);rintro e t1 ⟨rfl,n,hn⟩;have HT:Hd (RV w A s j2 E2 c2 x1 x2 0 ⟨#[]⟩ ⟨#[]⟩ t1):=by show RV _ _ _ _ _ _ _ _ _ _ _ t1;rw[hn];exact dU.o.drew n
     clear hn f0 f1 f2 f3;have f0:=HT.o.vs.c0;have f1:=HT.o.vs.c1;have f2:=HT.o.vs.c2;have f3:=HT.o.vs.c3;obtain⟨z0,z1,z2,z3,z4⟩:=HT.o.vz.cells;have zf:=HT.o.vz.f;go_wp2
     go_region
     go_wp2;refine bodyPost_ret (qL (p:=2) (u:=3) (r:=4) rfl _ _ A _ _ (0,0) _ rfl (vY HT.o.vz 0 0 0 ⟨#[]⟩ ⟨#[]⟩) underlying61 rfl (by kernel_rfl)) rfl ⟨?_,aH (qM HT.o.gb HT.o.le 0 0 0 ⟨#[]⟩ ⟨#[]⟩) 1⟩;rw[FIN.o];rfl
    | true =>
     have h0:E2=0:=by simpa using hz2
     subst h0;clear hz2;have HJ2:=ae ((gV.o.2.1 rfl).2.2);have HR2:Hd (R=uj l j2 x1 x2):=by
      show R=_;obtain⟨e1,e2,-⟩:=gV.o.2.1 rfl;have hr:=HRn.o;rw[if_pos gV.o.1.symm,<-e1,<-e2]at hr;exact hr
     clear gV HRn
     cases hc2:decide (l[j2]?=some 46) with
     | false =>
      have hc':=of_decide_eq_false hc2;have HZ:Hd ((2:Int)≠0):=by show(2:Int)≠0;decide
      have FIN:Hd (X=(2,j2,zeroV)):=by
       show X=_;have hr:=HR2.o;unfold uj at hr;rw[if_neg hc']at hr;rw[HV.o,hr];rfl
      have CM:=ae (MN.o _ _ _ _ HJ2.o hc' dU.o.vs);clear hc2 hc';go_wp2_with (go_at_call 46;refine CM.o.mono ?_);rintro e v1 ⟨rfl,hvs,hg⟩;have HM:=ae (dU.o.call hg hvs);clear hvs hg f0 f1 f2 f3 q0 q1 q2 q3 q4 qf MG;have f0:=HM.o.vs.c0;have f1:=HM.o.vs.c1;have f2:=HM.o.vs.c2;have f3:=HM.o.vs.c3;go_wp2_with (go_at_call 47;refine(E8 (A+1) (A+2) s j2 2 HZ.o j2 _ HM.o.vs).mono ?_);rintro e t1 ⟨rfl,n,hn⟩;have HT:Hd (RV w A s j2 2 j2 x1 x2 0 ⟨#[]⟩ ⟨#[]⟩ t1):=by show RV _ _ _ _ _ _ _ _ _ _ _ t1;rw[hn];exact HM.o.drew n
      clear hn f0 f1 f2 f3;have f0:=HT.o.vs.c0;have f1:=HT.o.vs.c1;have f2:=HT.o.vs.c2;have f3:=HT.o.vs.c3;obtain⟨z0,z1,z2,z3,z4⟩:=HT.o.vz.cells;have zf:=HT.o.vz.f;go_wp2
      go_region
      go_wp2;refine bodyPost_ret (qL (p:=2) (u:=3) (r:=4) rfl _ _ A _ _ (0,0) _ rfl (vY HT.o.vz 0 0 0 ⟨#[]⟩ ⟨#[]⟩) underlying61 rfl (by kernel_rfl)) rfl ⟨?_,aH (qM HT.o.gb HT.o.le 0 0 0 ⟨#[]⟩ ⟨#[]⟩) 1⟩;rw[FIN.o];rfl
     | true =>
      have hc':=of_decide_eq_true hc2;have HRn:Hd (R=if(rdNum l (j2+1)).1=0 then yZ l (rdNum l (j2+1)).2.2 x1 x2 (rdNum l (j2+1)).2.1 else((rdNum l (j2+1)).1,(rdNum l (j2+1)).2.2,0,0,0)):=by
       show R=_;have hr:=HR2.o;unfold uj at hr;rw[if_pos hc']at hr;exact hr
      have iG:Hd (j2+1<=s.size):=by have:=(List.getElem?_eq_some_iff.1 hc').1;rw[HL.o.2]at this;exact this
      have CM:=ae (MY.o _ _ _ _ hc' dU.o.vs);clear hc2 hc';go_wp2_with (go_at_call 46;refine CM.o.mono ?_);rintro e v3 ⟨rfl,hvs,hg⟩;have BM:=ae (dU.o.call hg hvs);clear hvs hg f0 f1 f2 f3 q0 q1 q2 q3 q4 qf MG HR2 CM;have f0:=BM.o.vs.c0;have f1:=BM.o.vs.c1;have f2:=BM.o.vs.c2;have f3:=BM.o.vs.c3;go_wp2_with (go_at_call 45;refine(CN.o _ (j2+1) c2 _ iG.o BM.o.vs).mono ?_);rintro e u3 ⟨x3,j3,E3,c3,rfl,hvs,hg,hE,hok,herr⟩;have Ff:=ae (BM.o.call hg hvs);have jf:Hd (E3=(rdNum l (j2+1)).1/\(E3=0->x3=(rdNum l (j2+1)).2.1/\j3=(rdNum l (j2+1)).2.2/\j3<=s.size)/\(E3≠0->c3=(rdNum l (j2+1)).2.2)):=by rw[HL.o.1];exact⟨hE,hok,herr⟩
      clear hvs hg hE hok herr f0 f1 f2 f3;obtain⟨U3,UC⟩:=zN (u3.setCell ⟨A+2,2,none⟩ (.int .i64 x3));have fH:Hd (RV w A s j3 E3 c3 x1 x2 x3 ⟨#[]⟩ ⟨#[]⟩ U3):=by show RV _ _ _ _ _ _ _ _ _ _ _ U3;rw[<-UC];exact Ff.o.put2 x3
      obtain⟨q0,q1,q2,q3,q4⟩:=Ff.o.vr.cells;have qf:=Ff.o.vr.f;have f0:=fH.o.vs.c0;have f1:=fH.o.vs.c1;have f2:=fH.o.vs.c2;have f3:=fH.o.vs.c3
      cases hz3:(E3 == 0) with
      | false =>
       have HZ:Hd (E3≠0):=by show E3≠0;simpa using hz3
       have FIN:Hd (X=(E3,c3,zeroV)):=by
        show X=_;have h9:¬(rdNum l (j2+1)).1=0:=fun e=>HZ.o (jf.o.1.trans e)
        have hr:=HRn.o;rw[if_neg h9,<-jf.o.1,<-jf.o.2.2 HZ.o]at hr;rw[HV.o,hr,if_neg HZ.o]
       go_wp2_with (go_at_call 47;refine(E8 (A+1) (A+2) s j3 E3 HZ.o c3 _ fH.o.vs).mono ?_);rintro e t1 ⟨rfl,n,hn⟩;have HT:Hd (RV w A s j3 E3 c3 x1 x2 x3 ⟨#[]⟩ ⟨#[]⟩ t1):=by show RV _ _ _ _ _ _ _ _ _ _ _ t1;rw[hn];exact fH.o.drew n
       clear hn f0 f1 f2 f3;have f0:=HT.o.vs.c0;have f1:=HT.o.vs.c1;have f2:=HT.o.vs.c2;have f3:=HT.o.vs.c3;obtain⟨z0,z1,z2,z3,z4⟩:=HT.o.vz.cells;have zf:=HT.o.vz.f;go_wp2
       go_region
       go_wp2;refine bodyPost_ret (qL (p:=2) (u:=3) (r:=4) rfl _ _ A _ _ (0,0) _ rfl (vY HT.o.vz 0 0 0 ⟨#[]⟩ ⟨#[]⟩) underlying61 rfl (by kernel_rfl)) rfl ⟨?_,aH (qM HT.o.gb HT.o.le 0 0 0 ⟨#[]⟩ ⟨#[]⟩) 1⟩;rw[FIN.o];rfl
      | true =>
       have h0:E3=0:=by simpa using hz3
       subst h0;clear hz3;have uq:=ae ((jf.o.2.1 rfl).2.2);have HR3:Hd (R=yZ l j3 x1 x2 x3):=by
        show R=_;obtain⟨e1,e2,-⟩:=jf.o.2.1 rfl;have hr:=HRn.o;rw[if_pos jf.o.1.symm,<-e1,<-e2]at hr;exact hr
       clear jf HRn;have Hw:=ae (CT.o _ _ _ _ _ _ _ _ uq.o fH.o.vs fH.o.vr (by omega));go_wp2_with (go_at_call 47;refine Hw.o.mono ?_);rintro e t1 ⟨rfl,j4,E4,c4,P4,B4,hvs,UD,hg,hE,hok,herr⟩;have HT:=ae (fH.o.two hg hvs UD);have BN:Hd (E4=(aN l j3).1/\(E4=0->P4=⟨(aN l j3).2.2.1.toArray⟩/\B4=⟨(aN l j3).2.2.2.toArray⟩/\j4=(aN l j3).2.1/\j4<=s.size)/\(E4≠0->c4=(aN l j3).2.1)):=by rw[HL.o.1];exact⟨hE,hok,herr⟩
       have BO:Hd (X=if(aN l j3).1=0 then(if(aN l j3).2.1<l.length then(2,(aN l j3).2.1,zeroV) else(0,0,⟨x1,x2,x3,(aN l j3).2.2.1,(aN l j3).2.2.2⟩)) else((aN l j3).1,(aN l j3).2.1,zeroV)):=by
        show X=_;have hr:=HR3.o;unfold yZ at hr;rw[HV.o,hr];rfl
       clear hvs UD hg hE hok herr f0 f1 f2 f3 q0 q1 q2 q3 q4 qf UC HV HR3
       cases wu:(E4 == 0) with
       | false =>
        have HZ:Hd (E4≠0):=by show E4≠0;simpa using wu
        have FIN:Hd (X=(E4,c4,zeroV)):=by
         show X=_;have h9:¬(aN l j3).1=0:=fun e=>HZ.o (BN.o.1.trans e)
         rw[BO.o,if_neg h9,<-BN.o.1,<-BN.o.2.2 HZ.o]
        have f0:=HT.o.vs.c0;have f1:=HT.o.vs.c1;have f2:=HT.o.vs.c2;have f3:=HT.o.vs.c3;obtain⟨z0,z1,z2,z3,z4⟩:=HT.o.vz.cells;have zf:=HT.o.vz.f;go_wp2
        go_region
        go_wp2;refine bodyPost_ret (qL (p:=2) (u:=3) (r:=4) rfl _ _ A _ _ (0,0) _ rfl (vY HT.o.vz 0 0 0 ⟨#[]⟩ ⟨#[]⟩) underlying61 rfl (by kernel_rfl)) rfl ⟨?_,aH (qM HT.o.gb HT.o.le 0 0 0 ⟨#[]⟩ ⟨#[]⟩) 1⟩;rw[FIN.o];rfl
       | true =>
        have h0:E4=0:=by simpa using wu
        subst h0;clear wu;have MH:=ae (BN.o.2.1 rfl);have UE:Hd (X=if j4<l.length then(2,j4,zeroV) else(0,0,⟨x1,x2,x3,(aN l j3).2.2.1,(aN l j3).2.2.2⟩)):=by
         show X=_;rw[BO.o,if_pos BN.o.1.symm,<-MH.o.2.2.1]
        clear BN BO;have f0:=HT.o.vs.c0;have f1:=HT.o.vs.c1;have f2:=HT.o.vs.c2;have f3:=HT.o.vs.c3
        by_cases hlt:j4<s.size
        ·have hl2:((j4:Nat):Int)<(s.size:Int):=by omega
         have FIN:Hd (X=(2,j4,zeroV)):=by show X=_;rw[UE.o,if_pos (by rw[HL.o.2];exact hlt)]
         go_wp2_with (go_at_call 48;refine(ul (A+1) s j4 c4 2 j4 _ HT.o.vs).mono ?_);rintro e t2 ⟨rfl,hvs,hg⟩;have HT3:=ae (HT.o.call hg hvs);clear hvs hg f0 f1 f2 f3;have f0:=HT3.o.vs.c0;have f1:=HT3.o.vs.c1;have f2:=HT3.o.vs.c2;have f3:=HT3.o.vs.c3;obtain⟨z0,z1,z2,z3,z4⟩:=HT3.o.vz.cells;have zf:=HT3.o.vz.f;go_wp2
         go_region
         go_wp2;refine bodyPost_ret (qL (p:=2) (u:=3) (r:=4) rfl _ _ A _ _ (0,0) _ rfl (vY HT3.o.vz 0 0 0 ⟨#[]⟩ ⟨#[]⟩) underlying61 rfl (by kernel_rfl)) rfl ⟨?_,aH (qM HT3.o.gb HT3.o.le 0 0 0 ⟨#[]⟩ ⟨#[]⟩) 1⟩;rw[FIN.o];rfl
        ·have hl2:¬((j4:Nat):Int)<(s.size:Int):=by omega
         have FIN:Hd (X=(0,0,⟨x1,x2,x3,(aN l j3).2.2.1,(aN l j3).2.2.2⟩)):=by show X=_;rw[UE.o,if_neg (by rw[HL.o.2];exact hlt)]
         clear hlt;obtain⟨z0,z1,z2,z3,z4⟩:=HT.o.vz.cells;have zf:=HT.o.vz.f;obtain⟨q0,q1,q2,q3,q4⟩:=HT.o.vr.cells;go_wp2;refine bodyPost_ret (qL (p:=2) (u:=3) (r:=4) rfl _ _ A _ _ (0,0) _ rfl (vY HT.o.vz x1 x2 x3 P4 B4) underlying61 rfl (by kernel_rfl)) rfl ⟨?_,qM HT.o.gb HT.o.le x1 x2 x3 P4 B4⟩;rw[FIN.o,MH.o.1,MH.o.2.1];rfl
open Go.RowKit
def okV(s:ByteArray):Bool:=decide ((ig s.data.toList).1=0)
def aK(s:ByteArray):Vv:=(ig s.data.toList).2.2
def cutV(v:Vv):V:=⟨v.major,v.minor,v.patch,v.pre⟩
def og(s t:ByteArray):Bool:=okV s && (okV t && decide (aB (cutV (aK s)) (cutV (aK t))=0))
theorem adw(l:List UInt8)(i k:Nat):(aO l i k).length<=l.length:=by unfold aO;simp;omega
theorem adx(c:UInt8)(st:Bool)(l:List UInt8)(i:Nat):(aX c st l i).2.2.length<=l.length:=by
 unfold aX
 repeat' split
 all_goals first|exact adw _ _ _|exact Nat.zero_le _
theorem sF(s:ByteArray):(aK s).pre.length<=100:=by
 unfold aK ig;split
 ·exact Nat.zero_le _
 ·rename_i h;unfold dK
  repeat' split
  all_goals first|exact Nat.zero_le _|(have:=adx 45 true s.data.toList (bT s.data.toList).2.1;simp only[];omega)
theorem Iw(s:ByteArray)(w:World)(hs:s.size<2 ^ 62):Calls prog 40 #[.string s] w fun e w'=>e=.returned (.bool (okV s))/\w.grownBy w' none:=by
 have CR:Hd (∀w,Calls prog 23 #[.string s] w fun e w'=>(∃(x1 x2 x3:Int) (x4 x5:ByteArray) (k:Int),e=.returned (.tuple #[.agg #[.int .i64 x1,.int .i64 x2,.int .i64 x3,.string x4,.string x5],.int .i64 (ig s.data.toList).1,.int .i64 k]))/\w.grownBy w' none):=fun w=>(MC s w hs).mono fun e w' ⟨h1,h2⟩=>⟨⟨_,_,_,_,_,_,h1⟩,h2⟩
 unfold okV;obtain⟨E,hE⟩:=zN ((ig s.data.toList).1);rw[hE]at CR ⊢;clear hE;have hd:decide (E=0)=(E == 0):=by rw[Bool.eq_iff_iff];simp
 rw[hd];clear hd;go_enter func40,ntmps40;go_wp2_with (go_at_call 23;refine(CR.o _).mono ?_);rintro e w1 ⟨⟨x1,x2,x3,x4,x5,k,rfl⟩,hg⟩
 cases hz:(E == 0) with
 | true =>
  go_wp2;go_ret;exact⟨bi hz.symm,ag hg (ak (ai w1 none) _)⟩
 | false =>
  go_wp2;go_ret;exact⟨bi hz.symm,ag hg (ak (ai w1 none) _)⟩
theorem Iy(s:ByteArray)(w:World)(hs:s.size<2 ^ 62):Calls prog 73 #[.string s] w fun e w'=>e=.returned (eY (aK s))/\w.grownBy w' none:=by
 have CR:Hd (∀w,Calls prog 23 #[.string s] w fun e w'=>(∃(E k:Int),e=.returned (.tuple #[eY (aK s),.int .i64 E,.int .i64 k]))/\w.grownBy w' none):=fun w=>(MC s w hs).mono fun e w' ⟨h1,h2⟩=>⟨⟨_,_,h1⟩,h2⟩
 unfold eY at CR ⊢;obtain⟨x1,h1⟩:=zN ((aK s).major);obtain⟨x2,h2⟩:=zN ((aK s).minor);obtain⟨x3,h3⟩:=zN ((aK s).patch);obtain⟨x4,h4⟩:∃x:ByteArray,⟨(aK s).pre.toArray⟩=x:=⟨_,rfl⟩;obtain⟨x5,h5⟩:∃x:ByteArray,⟨(aK s).build.toArray⟩=x:=⟨_,rfl⟩;rw[h1,h2,h3,h4,h5]at CR ⊢;clear h1 h2 h3 h4 h5 hs;go_enter func73,ntmps73;go_wp2_with (go_at_call 23;refine(CR.o _).mono ?_);rintro e w1 ⟨⟨E,k,rfl⟩,hg⟩;obtain⟨A,hA⟩:=zN (w.heap.size);have hx:VR A 0 0 0 ⟨#[]⟩ ⟨#[]⟩ w1:=by
  show w1.heap[A]?=_;rw[<-hA,hg.block w.heap.size (by simp) (by simp)];exact heap_alloc_new w _
 have jU:=ae hx;have HG:=ae (ag (ak (ai w none) _) hg);have oN:=ae (Nat.le_of_eq hA);have hlt0:=(aC hx)
 try rw[hA]
 clear hA hx hg;obtain⟨ca0,ca1,ca2,ca3,ca4⟩:=jU.o.cells;have ra:=jU.o.f;go_wp2;refine bodyPost_ret (results_cell_row rfl _ _ A 61 #[.int .i64 x1,.int .i64 x2,.int .i64 x3,.string x4,.string x5] (0,0) _ rfl (by rw[Lib.alloc_old _ _ _ (by simpa [World.setCell] using hlt0)];exact vY jU.o x1 x2 x3 x4 x5) underlying61 rfl (by kernel_rfl)) rfl ⟨rfl,ak (qM HG.o oN.o x1 x2 x3 x4 x5) _⟩
theorem UF(s t:ByteArray)(w:World)(hs:s.size<2 ^ 62)(ht:t.size<2 ^ 62):Calls prog 41 #[.string s,.string t] w fun e w'=>e=.returned (.bool (og s t))/\w.grownBy w' none:=by
 have IS:=ae (fun w=>Iw s w hs);have IT:=ae (fun w=>Iw t w ht);have p1:=sF s;have p2:=sF t;have VS1:=ae (fun w=>Iy s w hs);have VT1:=ae (fun w=>Iy t w ht);have CC:Hd (∀w,Calls prog 25 #[eY (aK s),eY (aK t)] w fun e w'=>e=.returned (.int .i64 (aB (cutV (aK s)) (cutV (aK t))))/\w.grownBy w' none):=fun w=>by
  refine(yQ _ _ _ _ _ _ _ _ _ _ w (by show(aK s).pre.toArray.size<=_;simp;omega) (by show(aK t).pre.toArray.size<=_;simp;omega)).mono ?_;rintro e w' ⟨rfl,h⟩;refine⟨?_,⟨h.os,h.tape,h.output,h.size,fun k hk _=>h.block k hk⟩⟩;simp[cutV]
 unfold og;obtain⟨bs,hbs⟩:=zN (okV s);obtain⟨bt,hbt⟩:=zN (okV t);obtain⟨Vs,UG⟩:=zN (eY (aK s));obtain⟨Vt,UH⟩:=zN (eY (aK t));obtain⟨R,hR⟩:=zN (aB (cutV (aK s)) (cutV (aK t)));rw[hbs]at IS ⊢;rw[hbt]at IT ⊢;rw[hR]at CC ⊢;rw[UG]at VS1 CC;rw[UH]at VT1 CC;have hd:decide (R=0)=(R == 0):=by rw[Bool.eq_iff_iff];simp
 rw[hd];clear hd hbs hbt UG UH hR p1 p2 hs ht;have HG:Hd (w.grownBy w none):=ai _ _;go_enter func41,ntmps41;go_wp2_with (go_at_call 40;refine(IS.o _).mono ?_);rintro e w1 ⟨rfl,hg⟩;replace HG:=ae (ag HG.o hg);clear hg;go_wp2_with (go_at_call 40;refine(IT.o _).mono ?_);rintro e w2 ⟨rfl,hg⟩;replace HG:=ae (ag HG.o hg);clear hg
 cases bs with
 | false =>
  go_wp2;go_ret;exact⟨rfl,HG.o⟩
 | true =>
  cases bt with
  | false =>
   go_wp2;go_ret;exact⟨rfl,HG.o⟩
  | true =>
   cases hz:(R == 0) with
   | true =>
    go_wp2_with (first|(go_at_call_of 73 s;refine(VS1.o _).mono ?_;rintro e w' ⟨rfl,hg⟩;replace HG:=ae (ag HG.o hg);clear hg)|(go_at_call_of 73 t;refine(VT1.o _).mono ?_;rintro e w' ⟨rfl,hg⟩;replace HG:=ae (ag HG.o hg);clear hg)|(go_at_call 25;refine(CC.o _).mono ?_;rintro e w' ⟨rfl,hg⟩;replace HG:=ae (ag HG.o hg);clear hg));go_ret;exact⟨bi (show true=(true && (true && (R == 0))) by rw[hz];rfl),HG.o⟩
   | false =>
    go_wp2_with (first|(go_at_call_of 73 s;refine(VS1.o _).mono ?_;rintro e w' ⟨rfl,hg⟩;replace HG:=ae (ag HG.o hg);clear hg)|(go_at_call_of 73 t;refine(VT1.o _).mono ?_;rintro e w' ⟨rfl,hg⟩;replace HG:=ae (ag HG.o hg);clear hg)|(go_at_call 25;refine(CC.o _).mono ?_;rintro e w' ⟨rfl,hg⟩;replace HG:=ae (ag HG.o hg);clear hg));go_ret;exact⟨bi (show false=(true && (true && (R == 0))) by rw[hz];rfl),HG.o⟩
open Go.RowKit
def fA(name v:ByteArray)(x:Re):Bool:=decide (x.nm=name) && og x.ve v
def fB(name v:ByteArray):List Re->Nat->Int
 | [],_=>-1
 | x :: r,k=>if fA name v x=true then(k:Int) else fB name v r (k+1)
theorem uA{a b:ByteArray}(h:a=b):(a.toList == b.toList)=true:=by rw[h];simp
theorem pz{a b:ByteArray}(h:¬a=b):(a.toList == b.toList)=false:=by
 cases hb:(a.toList == b.toList) with
 | false=>rfl
 | true =>
  exfalso;apply h;have h2:a.toList=b.toList:=by simpa using hb
  rw[Lib.toList_data,Lib.toList_data]at h2;apply ByteArray.ext;exact Array.ext' h2
theorem ady(a:Addr)(cap:Nat)(L:List Re)(name v:ByteArray)(w:World)(hL:L.length<=1048576)(hcap:L.length<=cap)(hV:∀x∈L,x.ve.size<2 ^ 62)(hv:v.size<2 ^ 62)(h:∀i (hi:i<L.length),ReAt w (a.add (i*4)) L[i]) :
  Calls prog 105 #[.slice (some a) L.length cap,.string name,.string v] w fun e w'=>e=.returned (.int .i64 (fB name v L 0))/\w.grownBy w' none:=by
 have HA:Hd (∀i (hi:i<L.length),ReAt w (a.add (i*4)) L[i]):=h;have CT:Hd (∀x∈L,∀w,Calls prog 41 #[.string x.ve,.string v] w fun e w'=>e=.returned (.bool (og x.ve v))/\w.grownBy w' none):=fun x hx w=>UF x.ve v w (hV x hx) hv
 obtain⟨R,hR⟩:=zN (fB name v L 0);have HR:Hd (fB name v (L.drop 0) 0=R):=hR;rw[hR];clear h hV hv hR;go_enter func105,ntmps105;go_wp2;go_loopw [7] (fun vi wr=>∃i:Nat,vi=.int .i64 i/\i<=L.length/\fB name v (L.drop i) i=R/\w.grownBy wr none) (fun vi _=>L.length-(intOf vi).toNat)
 case atStart=>exact⟨0,rfl,Nat.zero_le _,HR.o,ai _ _⟩
 case round =>
  obtain⟨i,rfl,hi,hf,hg⟩:=hrel;have HG:Hd (w.grownBy wr none):=hg
  by_cases hlt:i<L.length
  ·obtain⟨x,hx⟩:=zN (L[i]);have qc:ReAt wr (a.add (i*4)) x:=by rw[<-hx];exact(HA.o i hlt).grow hg
   have HE:Hd (ReAt wr (a.add (i*4)) x):=qc;obtain⟨e0,e1,-,-⟩:=qc;have HF:Hd ((if fA name v x=true then(i:Int) else fB name v (L.drop (i+1)) (i+1))=R):=by
    show _=_;rw[List.drop_eq_getElem_cons hlt,hx]at hf;exact hf
   have CX:Hd (∀w,Calls prog 41 #[.string x.ve,.string v] w fun e w'=>e=.returned (.bool (og x.ve v))/\w.grownBy w' none):=fun w=>CT.o x (by rw[<-hx];exact List.getElem_mem _) w
   obtain⟨b,hb⟩:=zN (og x.ve v);rw[hb]at CX;have HB:Hd (og x.ve v=b):=hb;clear hf hg hx hb;go_wp2_with (go_at_call 41;refine(CX.o _).mono ?_);rintro e w1 ⟨rfl,hg1⟩;replace HG:Hd (w.grownBy w1 none):=ag HG.o hg1;replace HE:Hd (ReAt w1 (a.add (i*4)) x):=HE.o.grow hg1;clear e0 e1 hg1;obtain⟨e0,-,-,-⟩:=HE.o
   by_cases hn:x.nm=name
   ·have q:=uA hn;have HN:Hd (x.nm=name):=hn;clear hn
    cases b with
    | true =>
     have HQ:Hd ((i:Int)=R):=by
      have:=HF.o;rw[if_pos (by unfold fA;rw[HN.o,HB.o];simp)]at this;exact this
     go_wp2;go_ret;exact⟨bF HQ.o,HG.o⟩
    | false =>
     have HQ:Hd (fB name v (L.drop (i+1)) (i+1)=R):=by
      have:=HF.o;rw[if_neg (by unfold fA;rw[HB.o];simp)]at this;exact this
     go_wp2;go_roundw
     case rel=>exact⟨i+1,by go_num,by omega,HQ.o,HG.o⟩
     case measure=>simp[intOf];omega
   ·have q:=pz hn;have HQ:Hd (fB name v (L.drop (i+1)) (i+1)=R):=by
     have:=HF.o;rw[if_neg (by unfold fA;simp[hn])]at this;exact this
    clear hn;go_wp2;go_roundw
    case rel=>exact⟨i+1,by go_num,by omega,HQ.o,HG.o⟩
    case measure=>simp[intOf];omega
  ·have hil:i=L.length:=by omega
   have HQ:Hd (-1=R):=by
    show _=_;rw[hil,List.drop_length]at hf;exact hf
   clear hf hg hil;go_wp2;go_ret;exact⟨bF HQ.o,HG.o⟩
open Go.RowKit
structure It where
 k:Nat
 v:Vv
def jJ(x:It):List Value:=[.int .i64 (x.k:Int),.int .i64 x.v.major,.int .i64 x.v.minor,.int .i64 x.v.patch,.string ⟨x.v.pre.toArray⟩,.string ⟨x.v.build.toArray⟩]
def bn(name:ByteArray):List Re->Nat->List It
 | [],_=>[]
 | x :: r,k=>if(decide (x.nm=name) && okV x.ve)=true then⟨k,aK x.ve⟩ :: bn name r (k+1) else bn name r (k+1)
theorem ww(name:ByteArray):∀(L:List Re) (k:Nat),(bn name L k).length<=L.length
 | [],k=>Nat.le_refl _
 | x :: r,k=>by
  have:=ww name r (k+1);unfold bn;split<;>simp<;>omega
theorem adz:(prog.info? 183).map (fun i=>(i.zero,i.size,i.bytes))=some (some (.agg #[.int .i64 0,.int .i64 0,.int .i64 0,.int .i64 0,.string ⟨#[]⟩,.string ⟨#[]⟩]),6,64):=by kernel_rfl
theorem UI(s:It):∀u∈jJ s,u.oneCell'=true:=by
 intro u hu;simp only[jJ,List.mem_cons,List.not_mem_nil,or_false]at hu
 rcases hu with rfl|rfl|rfl|rfl|rfl|rfl<;>rfl
theorem dV{w w':World}{base:Nat}{e:TypeId}{size:Nat}{v:Value}{n:Nat}{xs:List Value}(h:w.ownsRow base e size v n xs)(hg:w.grownBy w' none):w'.ownsRow base e size v n xs :=
 h.kept hg (by cases v.ownBlock<;>simp)
theorem hrow2(w:World)(o1 o2:Obj):((w.alloc o1).alloc o2).heap[w.heap.size+1]?=some o2:=by
 have:=heap_alloc_new (w.alloc o1) o2;simpa using this
def UJ(M:List It)(w:World)(e:Ending)(w':World):Prop:=∃v,e=.returned v/\w'.ownsRow w.heap.size 183 6 v M.length (M.flatMap jJ)/\Below w.heap.size w w'
theorem adA(a:Addr)(cap:Nat)(L:List Re)(name:ByteArray)(w:World)(hL:L.length<=1048576)(hcap:L.length<=cap)(hV:∀x∈L,x.ve.size<2 ^ 62)(h:∀i (hi:i<L.length),ReAt w (a.add (i*4)) L[i]) :
  Calls prog 118 #[.slice (some a) L.length cap,.string name] w (UJ (bn name L 0) w):=by
 have HA:=ae h;have CT:Hd (∀x∈L,∀w,Calls prog 88 #[.string x.ve] w fun e w'=>(∃k:Int,e=.returned (.tuple #[eY (aK x.ve),.int .i64 (ig x.ve.data.toList).1,.int .i64 k]))/\w.grownBy w' none):=fun x hx w=>(parse_any x.ve w (hV x hx)).mono fun e w' ⟨h1,h2⟩=>⟨⟨_,h1⟩,h2⟩
 obtain⟨R,hR⟩:=zN (bn name L 0);have HR:Hd ([]++bn name (L.drop 0) 0=R):=hR;have nY:Hd (R.length<=1048576):=by rw[<-hR];exact Nat.le_trans (ww name L 0) hL
 rw[hR];clear h hV hR;have hinfo:=adz;obtain⟨i0,hi0,hii⟩:=Option.map_eq_some_iff.1 hinfo;simp only[Prod.mk.injEq]at hii;obtain⟨hz0,hz1,hzb⟩:=hii;clear hinfo;go_enter func118,ntmps118;go_wp2;go_loopw [5,13] (fun vm vi wr=>∃(i:Nat) (M:List It),vi=.int .i64 i/\i<=L.length/\M++bn name (L.drop i) i=R/\wr.ownsRow w.heap.size 183 6 vm M.length (M.flatMap jJ)/\Below w.heap.size w wr) (fun _ vi _=>L.length-(intOf vi).toNat)
 case atStart=>exact⟨0,[],rfl,Nat.zero_le _,HR.o,World.ownsRow_nil _ _ _ _,Below.refl _ _⟩
 case round =>
  obtain⟨i,M,rfl,hi,hf,hown,hb⟩:=hrel;have HO:=ae hown;have HB:=ae hb
  by_cases hlt:i<L.length
  ·obtain⟨x,hx⟩:=zN (L[i]);have qc:ReAt wr (a.add (i*4)) x:=by rw[<-hx];exact(HA.o i hlt).grow (gz hb)
   obtain⟨e0,e1,⟨sv,e2,hsv⟩,e3⟩:=qc;obtain⟨so,sc,rfl⟩:=mP hsv;obtain⟨sn,hsn⟩:=zN x.nd.length;rw[hsn]at e2;clear hsv hsn;have HF:Hd (M++(if(decide (x.nm=name) && okV x.ve)=true then⟨i,aK x.ve⟩ :: bn name (L.drop (i+1)) (i+1) else bn name (L.drop (i+1)) (i+1))=R):=by
    show _=_;rw[List.drop_eq_getElem_cons hlt,hx]at hf;exact hf
   have CX:=ae (CT.o x (by rw[<-hx];exact List.getElem_mem _));unfold eY at CX;obtain⟨E,hE⟩:=zN ((ig x.ve.data.toList).1);obtain⟨y,hy⟩:=zN (aK x.ve);obtain⟨y1,y2,y3,y4,y5⟩:=y;rw[hE,hy]at CX;simp only[]at CX;have HK:Hd (okV x.ve=decide (E=0)):=by show _=_;unfold okV;rw[hE]
   rw[hy]at HF;have hbs:=hb.size;clear hf hx hE hy hown hb
   by_cases hn:x.nm=name
   ·have q:=uA hn;have q2:(x.nm.toList != name.toList)=false:=by simp[bne,q]
    have HN:=ae hn;clear hn;go_wp2_with (go_at_call 88;refine(CX.o _).mono ?_);rintro e w1 ⟨⟨k,rfl⟩,hg⟩;have hga:=ag (ak (ai wr none) _) hg;replace HO:=ae (dV HO.o hga);replace HB:=ae (hbelow HB.o hbs hga);clear hg hga e0 e1 e2 e3
    cases hz:(E == 0) with
    | true =>
     have hE0:E=0:=by simpa using hz
     have HQ:Hd ((M++[⟨i,⟨y1,y2,y3,y4,y5⟩⟩])++bn name (L.drop (i+1)) (i+1)=R):=by
      have:=HF.o;rw[if_pos (by rw[HK.o,HN.o];simp[hE0])]at this;show _=_;rw[List.append_assoc];exact this
     have oh:Hd (M.length+1<=1048576):=by
      have h1:=congrArg List.length HQ.o;have h2:=nY.o;simp only[List.length_append,List.length_cons,List.length_nil]at h1;show _<=_;omega
     clear hE0;go_wp2_with (first|(at_builtin;refine wpList_append_own _ rfl _ _ 179 rfl w.heap.size 183 i0 (.agg #[.int .i64 0,.int .i64 0,.int .i64 0,.int .i64 0,.string ⟨#[]⟩,.string ⟨#[]⟩]) 6 64 underlying179 hi0 hz0 hz1 hzb rfl (by decide) _ _ _ rfl ((HO.o.alloc _).alloc _) _ 1 1 (jJ ⟨i,⟨y1,y2,y3,y4,y5⟩⟩) rfl rfl (World.news_of_block (hrow2 _ _ _)) (UI _) (by unfold maxLen;have:=oh.o;omega) (by have:=oh.o;omega) (by have:=HB.o.size;simp;omega) ?_;intro v' w3 hown3 hgrow _));have hb3:=((HB.o.alloc HB.o.size _).alloc (by have:=HB.o.size;simp;omega) _).grown hgrow (by have:=HB.o.size;simp;omega) (fun q hq=>(HO.o.lt q hq).1);refine⟨⟨i+1,M++[⟨i,⟨y1,y2,y3,y4,y5⟩⟩],by go_num,by omega,HQ.o,?_,hb3⟩,by simp[intOf];omega⟩;rw[List.length_append,List.flatMap_append];simpa using hown3
    | false =>
     have HQ:Hd (M++bn name (L.drop (i+1)) (i+1)=R):=by
      have h0:¬E=0:=by simpa using hz
      have:=HF.o;rw[if_neg (by rw[HK.o];simp[h0])]at this;exact this
     go_wp2;exact⟨⟨i+1,M,by go_num,by omega,HQ.o,HO.o.alloc _,HB.o.alloc HB.o.size _⟩,by simp[intOf];omega⟩
   ·have q:=pz hn;have q2:(x.nm.toList != name.toList)=true:=by simp[bne,q]
    have HQ:Hd (M++bn name (L.drop (i+1)) (i+1)=R):=by
     have:=HF.o;rw[if_neg (by simp[hn])]at this;exact this
    clear hn;go_wp2;exact⟨⟨i+1,M,by go_num,by omega,HQ.o,HO.o.alloc _,HB.o.alloc HB.o.size _⟩,by simp[intOf];omega⟩
  ·have hil:i=L.length:=by omega
   have HQ:Hd (M=R):=by
    show _=_;rw[hil,List.drop_length]at hf;simpa [bn] using hf
   clear hf hil hown hb;go_wp2;refine bodyPost_ret (results_tmp (t:=4) rfl _ _ _) rfl ⟨u5,rfl,by rw[<-HQ.o];exact HO.o,HB.o⟩
open Go.RowKit
def ItAt(w:World)(p:Addr)(x:It):Prop:=w.cell? p=some (.int .i64 (x.k:Int))/\w.cell? ⟨p.block,p.off+1,none⟩=some (.int .i64 x.v.major)/\w.cell? ⟨p.block,p.off+2,none⟩=some (.int .i64 x.v.minor)/\w.cell? ⟨p.block,p.off+3,none⟩=some (.int .i64 x.v.patch)/\w.cell? ⟨p.block,p.off+4,none⟩=some (.string ⟨x.v.pre.toArray⟩)/\w.cell? ⟨p.block,p.off+5,none⟩=some (.string ⟨x.v.build.toArray⟩)
theorem ItAt.grow{w w':World}{p:Addr}{x:It}(h:ItAt w p x)(hg:w.grownBy w' none):ItAt w' p x:=by
 obtain⟨h0,h1,h2,h3,h4,h5⟩:=h;exact⟨hg.cell h0 (by simp),hg.cell h1 (by simp),hg.cell h2 (by simp),hg.cell h3 (by simp),hg.cell h4 (by simp),hg.cell h5 (by simp)⟩
def UK(w:World)(v:Value)(M:List It):Prop:=(v=.slice none 0 0/\M=[])\/∃a cap,v=.slice (some a) M.length cap/\M.length<=cap/\∀i (hi:i<M.length),ItAt w (a.add (i*6)) M[i]
theorem MI(l:List It):∀(i:Nat) (hi:i<l.length) (k:Nat) (u:Value),(jJ l[i])[k]?=some u->(l.flatMap jJ)[i*6+k]?=some u:=by
 induction l with
 | nil=>intro i hi;simp at hi
 | cons t l ih =>
  intro i hi k u h;rw[List.flatMap_cons];have hl:(jJ t).length=6:=rfl
  cases i with
  | zero =>
   simp only[List.getElem_cons_zero]at h;have hk:=(List.getElem?_eq_some_iff.1 h).1;rw[Nat.zero_mul,Nat.zero_add,List.getElem?_append_left hk];exact h
  | succ i =>
   simp only[List.getElem_cons_succ]at h;rw[List.getElem?_append_right (by rw[hl];omega),hl,show(i+1)*6+k-6=i*6+k by omega];exact ih i (by simpa using hi) k u h
theorem MJ{w:World}{base:Nat}{v:Value}{L:List It}(h:w.ownsRow base 183 6 v L.length (L.flatMap jJ)):UK w v L:=by
 rcases h.2 with⟨h1,h2⟩|⟨g,cap,cur,hv,hb,hc,h3,h4,h5,h6⟩
 ·exact Or.inl ⟨h1,List.length_eq_zero_iff.1 h2⟩
 ·refine Or.inr ⟨⟨g,0,none⟩,cap,hv,h3,fun i hi=>?_⟩;have h':=h;rw[hv]at h';have key:∀k u,0<k->(jJ L[i])[k]?=some u->w.cell? ⟨((⟨g,0,none⟩:Addr).add (i*6)).block,((⟨g,0,none⟩:Addr).add (i*6)).off+k,none⟩=some u:=fun k u hk hu=>by
   have:=h'.cells (g:=g) rfl (i*6+k) u (MI L i hi k u hu);rw[qQ _ _ k hk]at this;exact this
  have k0:=h'.cells (g:=g) rfl (i*6+0) _ (MI L i hi 0 _ rfl);exact⟨by simpa using k0,key 1 _ (by omega) rfl,key 2 _ (by omega) rfl,key 3 _ (by omega) rfl,key 4 _ (by omega) rfl,key 5 _ (by omega) rfl⟩
def zy(wv:V):List It->Int
 | []=>-1
 | x :: r=>if aB (cutV x.v) wv=0 then(x.k:Int) else zy wv r
theorem UL(name v:ByteArray)(h:okV v=true):∀(L:List Re) (k:Nat),zy (cutV (aK v)) (bn name L k)=fB name v L k
 | [],k=>rfl
 | x :: r,k=>by
  have ih:=UL name v h r (k+1);unfold bn fB fA og;rw[h]
  by_cases h1:x.nm=name
  ·by_cases h2:okV x.ve=true
   ·rw[if_pos (by simp[h1,h2])];unfold zy
    by_cases h3:aB (cutV (aK x.ve)) (cutV (aK v))=0
    ·rw[if_pos h3,if_pos (by simp[h1,h2,h3])]
    ·rw[if_neg h3,if_neg (by simp[h3])];exact ih
   ·rw[if_neg (by simp[h2]),if_neg (by simp[h2])];exact ih
  ·rw[if_neg (by simp[h1]),if_neg (by simp[h1])];exact ih
theorem UM(name v:ByteArray)(h:okV v=false):∀(L:List Re) (k:Nat),fB name v L k=-1
 | [],k=>rfl
 | x :: r,k=>by
  unfold fB fA og;rw[if_neg (by simp[h])];exact UM name v h r (k+1)
theorem MK(name:ByteArray):∀(L:List Re) (k:Nat),∀x∈bn name L k,x.v.pre.length<=100/\x.k<k+L.length
 | [],k,x,hx=>by simp[bn]at hx
 | y :: r,k,x,hx=>by
  have ih:=MK name r (k+1);unfold bn at hx;split at hx
  ·rcases List.mem_cons.1 hx with rfl|hx
   ·exact⟨sF y.ve,by simp⟩
   ·have:=ih x hx;exact⟨this.1,by have:=this.2;simp only[List.length_cons];omega⟩
  ·have:=ih x hx;exact⟨this.1,by have:=this.2;simp only[List.length_cons];omega⟩
theorem UN(sl:Value)(L:List Re)(name:ByteArray)(w:World)(h:ReS w sl L)(hL:L.length<=1048576)(hV:∀x∈L,x.ve.size<2 ^ 62) :
  Calls prog 118 #[sl,.string name] w (UJ (bn name L 0) w):=by
 rcases h with⟨rfl,rfl⟩|⟨a,cap,rfl,h2,h3⟩
 ·go_enter func118,ntmps118;go_wp2;go_loopw [5,13] (fun vm vi wr=>vi=.int .i64 0/\vm=.slice none 0 0/\Below w.heap.size w wr) (fun _ vi _=>0)
  case atStart=>exact⟨rfl,rfl,Below.refl _ _⟩
  case round =>
   obtain⟨rfl,rfl,hb⟩:=hrel;have HB:=ae hb;clear hb;go_wp2;refine bodyPost_ret (results_tmp (t:=4) rfl _ _ _) rfl ⟨_,rfl,World.ownsRow_nil _ _ _ _,HB.o⟩
 ·exact adA a cap L name w hL h2 hV h3
end Go.Proofs.YtiinliaoojfjaaaGreatDoor
