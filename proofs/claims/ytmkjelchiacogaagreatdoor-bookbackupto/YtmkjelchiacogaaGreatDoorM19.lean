import Derived.Test.YtmkjelchiacogaaGreatDoorM18
set_option linter.unusedVariables false
set_option linter.unusedSimpArgs false
set_option maxRecDepth 100000
set_option maxHeartbeats 6400000
open Go.Proofs.Tryz
namespace Go.Proofs.YtmkjelchiacogaaGreatDoor
open Go.RowKit
def adn:Value->Nat
 | .bool true=>1
 | _=>0
def Na(st:Bool)(b:Nat)(s:ByteArray)(i:Nat)(w:World)(e:Ending)(w':World):Prop :=
 ∃(v:ByteArray) (j:Nat) (E:Int) (c:Nat),e=.returned (.string v)/\VS b s j E c w'/\w.grownBy w' (some b)/\E=(ak st s.data.toList i).1/\(E=0->v=⟨(ah s.data.toList i (j-i)).toArray⟩/\j=(ak st s.data.toList i).2/\j<=s.size)/\(E≠0->c=(ak st s.data.toList i).2)
theorem ado(st:Bool)(b:Nat)(s:ByteArray)(i:Nat)(a:Nat)(w:World)(hi:i<=s.size)(h:VS b s i 0 a w)(hs:s.size<2 ^ 62) :
  Calls prog 156 #[.pointer (some ⟨b,0,none⟩),.bool st] w (Na st b s i w):=by
 have h1:=h.c1;have HR:Hd (VS b s i 0 a w):=h;have HI:Hd (i<=s.size):=hi;obtain⟨R,hR⟩:=zN (ak st s.data.toList i);have HRR:Hd (ak st s.data.toList i=R):=hR;have HP:Hd (∀(v:ByteArray) (j:Nat) (E:Int) (c:Nat) (w':World),VS b s j E c w'->w.grownBy w' (some b)->v=⟨(ah s.data.toList i (j-i)).toArray⟩->j<=s.size->(E=0->R=(0,j))->(E≠0->R=(E,c))->Na st b s i w (.returned (.string v)) w'):=by
  intro v j E c w' hv hg he hj h0 h1;refine⟨v,j,E,c,rfl,hv,hg,?_⟩;rw[hR]
  by_cases hE:E=0
  ·have:=h0 hE;subst hE;rw[this];exact⟨rfl,fun _=>⟨he,rfl,hj⟩,fun h=>absurd rfl h⟩
  ·have:=h1 hE;rw[this];exact⟨rfl,fun h=>absurd h hE,fun _=>rfl⟩
 clear hR h hi;go_enter func156,ntmps156;go_wp2;go_loopw [6] (fun vm wr=>∃(mo:Bool) (j c:Nat) (E:Int),vm=.bool mo/\i<=j/\j<=s.size/\VS b s j E c wr/\w.grownBy wr (some b)/\(E=0->(mo=true->ak st s.data.toList j=R)/\(mo=false->R=(0,j)))/\(E≠0->R=(E,c))) (fun vm wr=>2*(s.size-placeOf b wr)+adn vm)
 case atStart=>exact⟨true,i,a,0,rfl,Nat.le_refl _,HI.o,HR.o,ai _ _,fun _=>⟨fun _=>HRR.o,fun h=>absurd h (by decide)⟩,fun h=>absurd rfl h⟩
 case round =>
  obtain⟨mo,j,c,E,rfl,hij,hjs,hrs,hgb,hp0,hp1⟩:=hrel;have d0:=hrs.c0;have d1:=hrs.c1;have d2:=hrs.c2;have df:=hrs.f1;have bK:Hd (VS b s j E c wr):=hrs;have bY:Hd (w.grownBy wr (some b)):=hgb;have yz:Hd (E=0->(mo=true->ak st s.data.toList j=R)/\(mo=false->R=(0,j))):=hp0;have dI:Hd (E≠0->R=(E,c)):=hp1;have HJ:Hd (i<=j/\j<=s.size):=⟨hij,hjs⟩;clear hrs hgb h1 HR hp0 hp1 hij hjs;have sl:∀wx,(Instr.slice 9 (.string s) (some (.int .i64 (i:Int))) (some (.int .i64 (j:Int))) none).run prog wx=.ok (.string ⟨(ah s.data.toList i (j-i)).toArray⟩) wx:=fun wx=>qF s i j HJ.o.1 HJ.o.2 wx
  cases mo with
  | false =>
   go_wp2;go_quiet (fail);go_wp2;go_ret;exact HP.o _ j E c _ (bK.o.drew _) (au bY.o _) rfl HJ.o.2 (fun h=>(yz.o h).2 (by first|rfl|trivial)) dI.o
  | true =>
   cases hz:(E == 0) with
   | false =>
    go_wp2;go_quiet (fail);go_wp2;go_ret;exact HP.o _ j E c _ (bK.o.drew _) (au bY.o _) rfl HJ.o.2 (fun h=>absurd h (by simpa using hz)) dI.o
   | true =>
    have hE:E=0:=by simpa using hz
    subst hE;have bH:Hd (ak st s.data.toList j=R):=(yz.o rfl).1 rfl;have dF:Hd (placeOf b wr=j):=bK.o.place;obtain⟨k,hk⟩:=zN (runN aS s.data.toList j);have hsl:s.data.toList.length=s.size:=by simp
    have HN:Hd (j+k<=s.size):=by
     show j+k<=s.size;have:=rU aS s.data.toList j (by rw[hsl];exact HJ.o.2);rw[hsl]at this;omega
    have HA:Hd (∀q,j<=q->(hq:q<s.size)->q<j+k->aS s[q]=true):=by
     show ∀q,j<=q->(hq:q<s.size)->q<j+k->aS s[q]=true;intro q h1 hq h2;obtain⟨g1,g2⟩:=IZ aS s.data.toList j (q-j) (by omega);have e:j+(q-j)=q:=by omega
     simp only[e]at g2;exact g2
    have HS:Hd (∀q,q=j+k->(hq:q<s.size)->aS s[q]=false):=by
     show ∀q,q=j+k->(hq:q<s.size)->aS s[q]=false;intro q e hq;have:=EX aS s.data.toList j (by rw[hk];simpa [<-e] using hq);simp only[hk,<-e]at this;exact this
    obtain⟨T,hT⟩:=zN (ah s.data.toList j k);have Ie:Hd (T.length=k):=by show T.length=k;rw[<-hT];exact rX s.data.toList j k (by rw[hsl];exact HN.o)
    obtain⟨X,hX⟩:∃X:ByteArray,X=⟨T.toArray⟩:=⟨_,rfl⟩;have yJ:Hd (X.data.toList=T):=by show X.data.toList=T;rw[hX]
    have iO:Hd (∀q,q=j+k->∀wx,(Instr.slice 9 (.string s) (some (.int .i64 (j:Int))) (some (.int .i64 (q:Int))) none).run prog wx=.ok (.string X) wx):=by
     show ∀q,q=j+k->∀wx,(Instr.slice 9 (.string s) (some (.int .i64 (j:Int))) (some (.int .i64 (q:Int))) none).run prog wx=.ok (.string X) wx;intro q e wx;subst e;have:=qF s j (j+k) (by omega) HN.o wx;rw[show j+k-j=k by omega,hT,<-hX]at this;exact this
    have HST:Hd ((if k=0 then(2,j) else if iY st T=true then(2,j) else if s.data.toList[j+k]?=some 46 then ak st s.data.toList (j+k+1) else(0,j+k))=R):=by
     have:=bH.o;rw[EZ,hk,hT]at this;exact this
    clear hz sl hk hT hX bH yz dI hsl;go_wp2;go_loopw [] (fun wq=>∃q:Nat,j<=q/\q<=j+k/\VS b s q 0 c wq/\w.grownBy wq (some b)) (fun wq=>s.size-placeOf b wq)
    case atStart=>exact⟨j,Nat.le_refl _,Nat.le_add_right _ _,bK.o,bY.o⟩
    clear bK bY d0 d1 d2 df;rename_i wr0 _ _ _;obtain⟨q,hjq,pV,hrs,hgb⟩:=hrel;have d0:=hrs.c0;have d1:=hrs.c1;have df:=hrs.f1;have bK:Hd (VS b s q 0 c wr):=hrs;have bY:Hd (w.grownBy wr (some b)):=hgb;have hns:=HN.o;clear hrs hgb
    by_cases hlt:q<j+k
    ·have yK:q<s.size:=by omega
     have hD:aS s[q]=true:=HA.o q hjq yK hlt;have HK:Hd (j<=q/\q<j+k/\q<s.size):=⟨hjq,hlt,yK⟩;have hlt2:(q:Int)<(s.size:Int):=by omega
     have hw:IntKind.i64.wrap ((q:Int)+1)=((q+1:Nat):Int):=by rw[IntKind.wrap_i64];omega
     clear hlt pV hns hjq;go_wp2;go_quiet (first|(go_at_call 198;exact Calls.quiet_of_same (UX _ _)));go_wp2;go_roundw
     case rel =>
      have:=HK.o;exact⟨q+1,by omega,by omega,(bK.o.drew _).set1 (q+1),dD (au bY.o _) _ _⟩
     case measure =>
      have e1:=bK.o.place;have e2:=((bK.o.drew nq).set1 (q+1)).place;rw[e1];exact Nat.lt_of_le_of_lt (Nat.le_of_eq (congrArg (s.size - ·) e2)) (by have:=HK.o;omega)
    ·have HQ:Hd (q=j+k):=by show q=j+k;omega
     have sl2:=iO.o q HQ.o;clear hlt pV hns hjq
     by_cases yK:q<s.size
     ·have hD:aS s[q]=false:=HS.o q HQ.o yK;have hlt2:(q:Int)<(s.size:Int):=by omega
      go_wp2;go_quiet (first|(go_at_call 198;exact Calls.quiet_of_same (UX _ _)));obtain⟨W,hW⟩:=zN (wr.drewN nq);have e0:W.cell? ⟨b,0,none⟩=some (.string s):=by rw[<-hW];exact d0
      have e1:W.cell? ⟨b,1,none⟩=some (.int .i64 (q:Int)):=by rw[<-hW];exact d1
      have ef:W.frozen? ⟨b,1,none⟩=false:=by rw[<-hW];exact df
      have HW:Hd (VS b s q 0 c W/\w.grownBy W (some b)):=by
       show VS b s q 0 c W/\w.grownBy W (some b);rw[<-hW];exact⟨bK.o.drew _,au bY.o _⟩
      rw[hW];clear hW d0 d1 df bK bY;go_wp2;go_quiet (fail);obtain⟨U,hU⟩:=zN (W.drewN nq);have g0:U.cell? ⟨b,0,none⟩=some (.string s):=by rw[<-hU];exact e0
      have g1:U.cell? ⟨b,1,none⟩=some (.int .i64 (q:Int)):=by rw[<-hU];exact e1
      have gf:U.frozen? ⟨b,1,none⟩=false:=by rw[<-hU];exact ef
      have HU:Hd (VS b s q 0 c U/\w.grownBy U (some b)):=by
       show VS b s q 0 c U/\w.grownBy U (some b);rw[<-hU];exact⟨HW.o.1.drew _,au HW.o.2 _⟩
      rw[hU];clear hU e0 e1 ef HW sl2;have eQ:X.size=k:=by
       have h1:=Ie.o;rw[<-yJ.o]at h1;simpa using h1
      obtain⟨ad,had⟩:=zN (X.data.toList.all aC);have CD:Hd (∀w,Calls prog 199 #[.string X] w fun e w'=>e=.returned (.bool ad)/\w'=w):=fun w=>by rw[<-had];exact UY X w (by have:=HN.o;omega)
      have dH:Hd (iY st T=(st && (ad && (decide (1<k) && decide (T[0]?=some 48))))):=by
       show _=_;rw[<-had,yJ.o];unfold iY;rw[Ie.o]
      clear had;have aJ:Hd (i<=j/\j<=q/\q<=s.size):=by
       have a1:=HJ.o;have a2:=HQ.o;have a3:=HN.o;exact⟨a1.1,by omega,by omega⟩
      have hw:IntKind.i64.wrap ((q:Int)+1)=((q+1:Nat):Int):=by rw[IntKind.wrap_i64];have:=aJ.o;omega
      cases q46:((s[q].toNat:Int) == 46) with
      | true =>
       have DY:Hd (s.data.toList[q]?=some 46):=by
        show s.data.toList[q]?=some 46;rw[jY s q yK];congr 1;exact UInt8.toNat_inj.1 (by simp at q46;show s[q].toNat=46;omega)
       replace aJ:Hd ((i<=j/\j<=q/\q<=s.size)/\q<s.size):=⟨aJ.o,yK⟩
       by_cases hk0:k=0
       ·have m1:=Ak (eQ.trans hk0);have m2:decide ((1:Int)<(X.size:Int))=false:=by simp;omega
        have dG:Hd (R=(2,q)):=by
         show R=(2,q);rw[HQ.o,<-HST.o,if_pos hk0,hk0];rfl
        clear hk0 eQ dH HST
        cases st with
        | false =>
         go_wp2_with (first|(go_at_call 199;refine(CD.o _).mono ?_;rintro e w' ⟨rfl,rfl⟩)|(go_at_call 111;refine(jc b s q c 2 q _ HU.o.1).mono ?_));rintro e w1 ⟨rfl,hr,hg⟩;have y0:=hr.c0;have y1:=hr.c1;have yf:=hr.f1;have HY:Hd (VS b s q 2 q w1/\w.grownBy w1 (some b)):=⟨hr,af HU.o.2 hg⟩;clear hr hg g0 g1 gf HU;go_wp2
         all_goals
          go_quiet (fail);go_wp2;go_roundw
          case rel=>exact⟨true,q+1,q,2,rfl,by have:=aJ.o;omega,by have:=aJ.o;omega,(HY.o.1.drew _).set1 (q+1),dD (au HY.o.2 _) _ _,fun h=>absurd h (by decide),fun _=>dG.o⟩
          case measure =>
           have e2:=((HY.o.1.drew nq).set1 (q+1)).place;rw[dF.o];refine Nat.lt_of_le_of_lt (Nat.le_of_eq (congrArg (fun x=>2*(s.size-x)+1) e2)) ?_;have:=aJ.o;show 2*(s.size-(q+1))+1<2*(s.size-j)+1;omega
        | true =>
         cases ad with
         | false =>
          go_wp2_with (first|(go_at_call 199;refine(CD.o _).mono ?_;rintro e w' ⟨rfl,rfl⟩)|(go_at_call 111;refine(jc b s q c 2 q _ HU.o.1).mono ?_));rintro e w1 ⟨rfl,hr,hg⟩;have y0:=hr.c0;have y1:=hr.c1;have yf:=hr.f1;have HY:Hd (VS b s q 2 q w1/\w.grownBy w1 (some b)):=⟨hr,af HU.o.2 hg⟩;clear hr hg g0 g1 gf HU;go_wp2
          all_goals
           go_quiet (fail);go_wp2;go_roundw
           case rel=>exact⟨true,q+1,q,2,rfl,by have:=aJ.o;omega,by have:=aJ.o;omega,(HY.o.1.drew _).set1 (q+1),dD (au HY.o.2 _) _ _,fun h=>absurd h (by decide),fun _=>dG.o⟩
           case measure =>
            have e2:=((HY.o.1.drew nq).set1 (q+1)).place;rw[dF.o];refine Nat.lt_of_le_of_lt (Nat.le_of_eq (congrArg (fun x=>2*(s.size-x)+1) e2)) ?_;have:=aJ.o;show 2*(s.size-(q+1))+1<2*(s.size-j)+1;omega
         | true =>
          go_wp2_with (first|(go_at_call 199;refine(CD.o _).mono ?_;rintro e w' ⟨rfl,rfl⟩)|(go_at_call 111;refine(jc b s q c 2 q _ HU.o.1).mono ?_));rintro e w1 ⟨rfl,hr,hg⟩;have y0:=hr.c0;have y1:=hr.c1;have yf:=hr.f1;have HY:Hd (VS b s q 2 q w1/\w.grownBy w1 (some b)):=⟨hr,af HU.o.2 hg⟩;clear hr hg g0 g1 gf HU;go_wp2
          all_goals
           go_quiet (fail);go_wp2;go_roundw
           case rel=>exact⟨true,q+1,q,2,rfl,by have:=aJ.o;omega,by have:=aJ.o;omega,(HY.o.1.drew _).set1 (q+1),dD (au HY.o.2 _) _ _,fun h=>absurd h (by decide),fun _=>dG.o⟩
           case measure =>
            have e2:=((HY.o.1.drew nq).set1 (q+1)).place;rw[dF.o];refine Nat.lt_of_le_of_lt (Nat.le_of_eq (congrArg (fun x=>2*(s.size-x)+1) e2)) ?_;have:=aJ.o;show 2*(s.size-(q+1))+1<2*(s.size-j)+1;omega
       ·have m1:=Am (fun h=>hk0 (eQ.symm.trans h));have DZ:0<X.size:=by omega
        have HT0:Hd (T[0]?=some X[0]):=by show T[0]?=some X[0];rw[<-yJ.o,jY X 0 DZ]
        have HZ:Hd ((if iY st T=true then(2,j) else if s.data.toList[j+k]?=some 46 then ak st s.data.toList (j+k+1) else(0,j+k))=R):=by
         have:=HST.o;rw[if_neg hk0]at this;exact this
        have HG:Hd (iY st T=false->ak st s.data.toList (q+1)=R):=by
         intro h;have:=HZ.o;rw[if_neg (by rw[h];decide)]at this;rw[<-HQ.o,if_pos DY.o]at this;exact this
        have sZ:Hd (X.size=k):=eQ;clear hk0 eQ HST
        cases st with
        | false =>
         have dG:Hd (ak false s.data.toList (q+1)=R):=HG.o (by rw[dH.o];rfl);have HY:Hd (VS b s q 0 c U/\w.grownBy U (some b)):=HU.o;clear dH HG HZ HU;go_wp2_with (go_at_call 199;refine(CD.o _).mono ?_;rintro e w' ⟨rfl,rfl⟩)
         all_goals
          go_quiet (fail);go_wp2;go_roundw
          case rel=>exact⟨true,q+1,c,0,rfl,by have:=aJ.o;omega,by have:=aJ.o;omega,(HY.o.1.drew _).set1 (q+1),dD (au HY.o.2 _) _ _,fun _=>⟨fun _=>dG.o,fun h=>absurd h (by decide)⟩,fun h=>absurd rfl h⟩
          case measure =>
           have e2:=((HY.o.1.drew nq).set1 (q+1)).place;rw[dF.o];refine Nat.lt_of_le_of_lt (Nat.le_of_eq (congrArg (fun x=>2*(s.size-x)+1) e2)) ?_;have:=aJ.o;show 2*(s.size-(q+1))+1<2*(s.size-j)+1;omega
        | true =>
         cases ad with
         | false =>
          have dG:Hd (ak true s.data.toList (q+1)=R):=HG.o (by rw[dH.o];rfl);have HY:Hd (VS b s q 0 c U/\w.grownBy U (some b)):=HU.o;clear dH HG HZ HU;go_wp2_with (go_at_call 199;refine(CD.o _).mono ?_;rintro e w' ⟨rfl,rfl⟩)
          all_goals
           go_quiet (fail);go_wp2;go_roundw
           case rel=>exact⟨true,q+1,c,0,rfl,by have:=aJ.o;omega,by have:=aJ.o;omega,(HY.o.1.drew _).set1 (q+1),dD (au HY.o.2 _) _ _,fun _=>⟨fun _=>dG.o,fun h=>absurd h (by decide)⟩,fun h=>absurd rfl h⟩
           case measure =>
            have e2:=((HY.o.1.drew nq).set1 (q+1)).place;rw[dF.o];refine Nat.lt_of_le_of_lt (Nat.le_of_eq (congrArg (fun x=>2*(s.size-x)+1) e2)) ?_;have:=aJ.o;show 2*(s.size-(q+1))+1<2*(s.size-j)+1;omega
         | true =>
          cases m2:decide ((1:Int)<(X.size:Int)) with
          | false =>
           have dG:Hd (ak true s.data.toList (q+1)=R):=HG.o (by
            rw[dH.o];have h1:=of_decide_eq_false m2;have h2:=sZ.o;rw[show decide (1<k)=false from by simp;omega];rfl)
           have HY:Hd (VS b s q 0 c U/\w.grownBy U (some b)):=HU.o;clear dH HG HZ HU;go_wp2_with (go_at_call 199;refine(CD.o _).mono ?_;rintro e w' ⟨rfl,rfl⟩)
           all_goals
            go_quiet (fail);go_wp2;go_roundw
            case rel=>exact⟨true,q+1,c,0,rfl,by have:=aJ.o;omega,by have:=aJ.o;omega,(HY.o.1.drew _).set1 (q+1),dD (au HY.o.2 _) _ _,fun _=>⟨fun _=>dG.o,fun h=>absurd h (by decide)⟩,fun h=>absurd rfl h⟩
            case measure =>
             have e2:=((HY.o.1.drew nq).set1 (q+1)).place;rw[dF.o];refine Nat.lt_of_le_of_lt (Nat.le_of_eq (congrArg (fun x=>2*(s.size-x)+1) e2)) ?_;have:=aJ.o;show 2*(s.size-(q+1))+1<2*(s.size-j)+1;omega
          | true =>
           cases m3:((X[0].toNat:Int) == 48) with
           | false =>
            have dG:Hd (ak true s.data.toList (q+1)=R):=HG.o (by
             rw[dH.o,HT0.o];rw[show decide (some X[0]=some (48:UInt8))=false from by
              simp only[decide_eq_false_iff_not];intro e;have:=Option.some.inj e;rw[this]at m3;exact absurd m3 (by decide)]
             simp)
            have HY:Hd (VS b s q 0 c U/\w.grownBy U (some b)):=HU.o;clear dH HG HZ HU;go_wp2_with (go_at_call 199;refine(CD.o _).mono ?_;rintro e w' ⟨rfl,rfl⟩)
            all_goals
             go_quiet (fail);go_wp2;go_roundw
             case rel=>exact⟨true,q+1,c,0,rfl,by have:=aJ.o;omega,by have:=aJ.o;omega,(HY.o.1.drew _).set1 (q+1),dD (au HY.o.2 _) _ _,fun _=>⟨fun _=>dG.o,fun h=>absurd h (by decide)⟩,fun h=>absurd rfl h⟩
             case measure =>
              have e2:=((HY.o.1.drew nq).set1 (q+1)).place;rw[dF.o];refine Nat.lt_of_le_of_lt (Nat.le_of_eq (congrArg (fun x=>2*(s.size-x)+1) e2)) ?_;have:=aJ.o;show 2*(s.size-(q+1))+1<2*(s.size-j)+1;omega
           | true =>
            have dG:Hd (R=(2,j)):=by
             show R=(2,j);rw[<-HZ.o,if_pos];have h1:=of_decide_eq_true m2;have h2:=sZ.o;rw[dH.o,HT0.o,show decide (1<k)=true from by simp;omega,show X[0]=48 from UInt8.toNat_inj.1 (by simp at m3;show X[0].toNat=48;omega)];decide
            clear dH HG HZ;go_wp2_with (first|(go_at_call 199;refine(CD.o _).mono ?_;rintro e w' ⟨rfl,rfl⟩)|(go_at_call 111;refine(jc b s q c 2 j _ HU.o.1).mono ?_))
            all_goals rintro e w1 ⟨rfl,hr,hg⟩
            all_goals
             have y0:=hr.c0;have y1:=hr.c1;have yf:=hr.f1;have HY:Hd (VS b s q 2 j w1/\w.grownBy w1 (some b)):=⟨hr,af HU.o.2 hg⟩;clear hr hg g0 g1 gf HU;go_wp2
             all_goals
              go_quiet (fail);go_wp2;go_roundw
              case rel=>exact⟨true,q+1,j,2,rfl,by have:=aJ.o;omega,by have:=aJ.o;omega,(HY.o.1.drew _).set1 (q+1),dD (au HY.o.2 _) _ _,fun h=>absurd h (by decide),fun _=>dG.o⟩
              case measure =>
               have e2:=((HY.o.1.drew nq).set1 (q+1)).place;rw[dF.o];refine Nat.lt_of_le_of_lt (Nat.le_of_eq (congrArg (fun x=>2*(s.size-x)+1) e2)) ?_;have:=aJ.o;show 2*(s.size-(q+1))+1<2*(s.size-j)+1;omega
      | false =>
       have DY:Hd (¬s.data.toList[q]?=some 46):=by
        show ¬s.data.toList[q]?=some 46;rw[jY s q yK];intro e;have:=Option.some.inj e;rw[this]at q46;exact absurd q46 (by decide)
       by_cases hk0:k=0
       ·have m1:=Ak (eQ.trans hk0);have m2:decide ((1:Int)<(X.size:Int))=false:=by simp;omega
        have dG:Hd (R=(2,q)):=by
         show R=(2,q);rw[HQ.o,<-HST.o,if_pos hk0,hk0];rfl
        clear hk0 eQ dH HST
        cases st with
        | false =>
         go_wp2_with (first|(go_at_call 199;refine(CD.o _).mono ?_;rintro e w' ⟨rfl,rfl⟩)|(go_at_call 111;refine(jc b s q c 2 q _ HU.o.1).mono ?_));rintro e w1 ⟨rfl,hr,hg⟩;have y0:=hr.c0;have y1:=hr.c1;have yf:=hr.f1;have HY:Hd (VS b s q 2 q w1/\w.grownBy w1 (some b)):=⟨hr,af HU.o.2 hg⟩;clear hr hg g0 g1 gf HU;go_wp2
         all_goals
          go_quiet (fail);go_wp2;go_roundw
          case rel=>exact⟨false,q,q,2,rfl,by have:=aJ.o;omega,by have:=aJ.o;omega,HY.o.1.drew _,au HY.o.2 _,fun h=>absurd h (by decide),fun _=>dG.o⟩
          case measure =>
           have e2:=(HY.o.1.drew nq).place;rw[dF.o];refine Nat.lt_of_le_of_lt (Nat.le_of_eq (congrArg (fun x=>2*(s.size-x)+0) e2)) ?_;have:=aJ.o;show 2*(s.size-q)+0<2*(s.size-j)+1;omega
        | true =>
         cases ad with
         | false =>
          go_wp2_with (first|(go_at_call 199;refine(CD.o _).mono ?_;rintro e w' ⟨rfl,rfl⟩)|(go_at_call 111;refine(jc b s q c 2 q _ HU.o.1).mono ?_));rintro e w1 ⟨rfl,hr,hg⟩;have y0:=hr.c0;have y1:=hr.c1;have yf:=hr.f1;have HY:Hd (VS b s q 2 q w1/\w.grownBy w1 (some b)):=⟨hr,af HU.o.2 hg⟩;clear hr hg g0 g1 gf HU;go_wp2
          all_goals
           go_quiet (fail);go_wp2;go_roundw
           case rel=>exact⟨false,q,q,2,rfl,by have:=aJ.o;omega,by have:=aJ.o;omega,HY.o.1.drew _,au HY.o.2 _,fun h=>absurd h (by decide),fun _=>dG.o⟩
           case measure =>
            have e2:=(HY.o.1.drew nq).place;rw[dF.o];refine Nat.lt_of_le_of_lt (Nat.le_of_eq (congrArg (fun x=>2*(s.size-x)+0) e2)) ?_;have:=aJ.o;show 2*(s.size-q)+0<2*(s.size-j)+1;omega
         | true =>
          go_wp2_with (first|(go_at_call 199;refine(CD.o _).mono ?_;rintro e w' ⟨rfl,rfl⟩)|(go_at_call 111;refine(jc b s q c 2 q _ HU.o.1).mono ?_));rintro e w1 ⟨rfl,hr,hg⟩;have y0:=hr.c0;have y1:=hr.c1;have yf:=hr.f1;have HY:Hd (VS b s q 2 q w1/\w.grownBy w1 (some b)):=⟨hr,af HU.o.2 hg⟩;clear hr hg g0 g1 gf HU;go_wp2
          all_goals
           go_quiet (fail);go_wp2;go_roundw
           case rel=>exact⟨false,q,q,2,rfl,by have:=aJ.o;omega,by have:=aJ.o;omega,HY.o.1.drew _,au HY.o.2 _,fun h=>absurd h (by decide),fun _=>dG.o⟩
           case measure =>
            have e2:=(HY.o.1.drew nq).place;rw[dF.o];refine Nat.lt_of_le_of_lt (Nat.le_of_eq (congrArg (fun x=>2*(s.size-x)+0) e2)) ?_;have:=aJ.o;show 2*(s.size-q)+0<2*(s.size-j)+1;omega
       ·have m1:=Am (fun h=>hk0 (eQ.symm.trans h));have DZ:0<X.size:=by omega
        have HT0:Hd (T[0]?=some X[0]):=by show T[0]?=some X[0];rw[<-yJ.o,jY X 0 DZ]
        have HZ:Hd ((if iY st T=true then(2,j) else if s.data.toList[j+k]?=some 46 then ak st s.data.toList (j+k+1) else(0,j+k))=R):=by
         have:=HST.o;rw[if_neg hk0]at this;exact this
        have HG:Hd (iY st T=false->R=(0,q)):=by
         intro h;have:=HZ.o;rw[if_neg (by rw[h];decide)]at this;rw[<-HQ.o,if_neg DY.o]at this;exact this.symm
        have sZ:Hd (X.size=k):=eQ;clear hk0 eQ HST
        cases st with
        | false =>
         have dG:Hd (R=(0,q)):=HG.o (by rw[dH.o];rfl);have HY:Hd (VS b s q 0 c U/\w.grownBy U (some b)):=HU.o;clear dH HG HZ HU;go_wp2_with (go_at_call 199;refine(CD.o _).mono ?_;rintro e w' ⟨rfl,rfl⟩)
         all_goals
          go_quiet (fail);go_wp2;go_roundw
          case rel=>exact⟨false,q,c,0,rfl,by have:=aJ.o;omega,by have:=aJ.o;omega,HY.o.1.drew _,au HY.o.2 _,fun _=>⟨fun h=>absurd h (by decide),fun _=>dG.o⟩,fun h=>absurd rfl h⟩
          case measure =>
           have e2:=(HY.o.1.drew nq).place;rw[dF.o];refine Nat.lt_of_le_of_lt (Nat.le_of_eq (congrArg (fun x=>2*(s.size-x)+0) e2)) ?_;have:=aJ.o;show 2*(s.size-q)+0<2*(s.size-j)+1;omega
        | true =>
         cases ad with
         | false =>
          have dG:Hd (R=(0,q)):=HG.o (by rw[dH.o];rfl);have HY:Hd (VS b s q 0 c U/\w.grownBy U (some b)):=HU.o;clear dH HG HZ HU;go_wp2_with (go_at_call 199;refine(CD.o _).mono ?_;rintro e w' ⟨rfl,rfl⟩)
          all_goals
           go_quiet (fail);go_wp2;go_roundw
           case rel=>exact⟨false,q,c,0,rfl,by have:=aJ.o;omega,by have:=aJ.o;omega,HY.o.1.drew _,au HY.o.2 _,fun _=>⟨fun h=>absurd h (by decide),fun _=>dG.o⟩,fun h=>absurd rfl h⟩
           case measure =>
            have e2:=(HY.o.1.drew nq).place;rw[dF.o];refine Nat.lt_of_le_of_lt (Nat.le_of_eq (congrArg (fun x=>2*(s.size-x)+0) e2)) ?_;have:=aJ.o;show 2*(s.size-q)+0<2*(s.size-j)+1;omega
         | true =>
          cases m2:decide ((1:Int)<(X.size:Int)) with
          | false =>
           have dG:Hd (R=(0,q)):=HG.o (by
            rw[dH.o];have h1:=of_decide_eq_false m2;have h2:=sZ.o;rw[show decide (1<k)=false from by simp;omega];rfl)
           have HY:Hd (VS b s q 0 c U/\w.grownBy U (some b)):=HU.o;clear dH HG HZ HU;go_wp2_with (go_at_call 199;refine(CD.o _).mono ?_;rintro e w' ⟨rfl,rfl⟩)
           all_goals
            go_quiet (fail);go_wp2;go_roundw
            case rel=>exact⟨false,q,c,0,rfl,by have:=aJ.o;omega,by have:=aJ.o;omega,HY.o.1.drew _,au HY.o.2 _,fun _=>⟨fun h=>absurd h (by decide),fun _=>dG.o⟩,fun h=>absurd rfl h⟩
            case measure =>
             have e2:=(HY.o.1.drew nq).place;rw[dF.o];refine Nat.lt_of_le_of_lt (Nat.le_of_eq (congrArg (fun x=>2*(s.size-x)+0) e2)) ?_;have:=aJ.o;show 2*(s.size-q)+0<2*(s.size-j)+1;omega
          | true =>
           cases m3:((X[0].toNat:Int) == 48) with
           | false =>
            have dG:Hd (R=(0,q)):=HG.o (by
             rw[dH.o,HT0.o];rw[show decide (some X[0]=some (48:UInt8))=false from by
              simp only[decide_eq_false_iff_not];intro e;have:=Option.some.inj e;rw[this]at m3;exact absurd m3 (by decide)]
             simp)
            have HY:Hd (VS b s q 0 c U/\w.grownBy U (some b)):=HU.o;clear dH HG HZ HU;go_wp2_with (go_at_call 199;refine(CD.o _).mono ?_;rintro e w' ⟨rfl,rfl⟩)
            all_goals
             go_quiet (fail);go_wp2;go_roundw
             case rel=>exact⟨false,q,c,0,rfl,by have:=aJ.o;omega,by have:=aJ.o;omega,HY.o.1.drew _,au HY.o.2 _,fun _=>⟨fun h=>absurd h (by decide),fun _=>dG.o⟩,fun h=>absurd rfl h⟩
             case measure =>
              have e2:=(HY.o.1.drew nq).place;rw[dF.o];refine Nat.lt_of_le_of_lt (Nat.le_of_eq (congrArg (fun x=>2*(s.size-x)+0) e2)) ?_;have:=aJ.o;show 2*(s.size-q)+0<2*(s.size-j)+1;omega
           | true =>
            have dG:Hd (R=(2,j)):=by
             show R=(2,j);rw[<-HZ.o,if_pos];have h1:=of_decide_eq_true m2;have h2:=sZ.o;rw[dH.o,HT0.o,show decide (1<k)=true from by simp;omega,show X[0]=48 from UInt8.toNat_inj.1 (by simp at m3;show X[0].toNat=48;omega)];decide
            clear dH HG HZ;go_wp2_with (first|(go_at_call 199;refine(CD.o _).mono ?_;rintro e w' ⟨rfl,rfl⟩)|(go_at_call 111;refine(jc b s q c 2 j _ HU.o.1).mono ?_))
            all_goals rintro e w1 ⟨rfl,hr,hg⟩
            all_goals
             have y0:=hr.c0;have y1:=hr.c1;have yf:=hr.f1;have HY:Hd (VS b s q 2 j w1/\w.grownBy w1 (some b)):=⟨hr,af HU.o.2 hg⟩;clear hr hg g0 g1 gf HU;go_wp2
             all_goals
              go_quiet (fail);go_wp2;go_roundw
              case rel=>exact⟨false,q,j,2,rfl,by have:=aJ.o;omega,by have:=aJ.o;omega,HY.o.1.drew _,au HY.o.2 _,fun h=>absurd h (by decide),fun _=>dG.o⟩
              case measure =>
               have e2:=(HY.o.1.drew nq).place;rw[dF.o];refine Nat.lt_of_le_of_lt (Nat.le_of_eq (congrArg (fun x=>2*(s.size-x)+0) e2)) ?_;have:=aJ.o;show 2*(s.size-q)+0<2*(s.size-j)+1;omega
     ·have hd2:decide ((q:Int)<(s.size:Int))=false:=by simp;omega
      go_wp2;go_quiet (fail);obtain⟨W,hW⟩:=zN (wr.drewN nq);have e0:W.cell? ⟨b,0,none⟩=some (.string s):=by rw[<-hW];exact d0
      have e1:W.cell? ⟨b,1,none⟩=some (.int .i64 (q:Int)):=by rw[<-hW];exact d1
      have ef:W.frozen? ⟨b,1,none⟩=false:=by rw[<-hW];exact df
      have HW:Hd (VS b s q 0 c W/\w.grownBy W (some b)):=by
       show VS b s q 0 c W/\w.grownBy W (some b);rw[<-hW];exact⟨bK.o.drew _,au bY.o _⟩
      rw[hW];clear hW d0 d1 df bK bY;go_wp2;go_quiet (fail);obtain⟨U,hU⟩:=zN (W.drewN nq);have g0:U.cell? ⟨b,0,none⟩=some (.string s):=by rw[<-hU];exact e0
      have g1:U.cell? ⟨b,1,none⟩=some (.int .i64 (q:Int)):=by rw[<-hU];exact e1
      have gf:U.frozen? ⟨b,1,none⟩=false:=by rw[<-hU];exact ef
      have HU:Hd (VS b s q 0 c U/\w.grownBy U (some b)):=by
       show VS b s q 0 c U/\w.grownBy U (some b);rw[<-hU];exact⟨HW.o.1.drew _,au HW.o.2 _⟩
      rw[hU];clear hU e0 e1 ef HW sl2;have eQ:X.size=k:=by
       have h1:=Ie.o;rw[<-yJ.o]at h1;simpa using h1
      obtain⟨ad,had⟩:=zN (X.data.toList.all aC);have CD:Hd (∀w,Calls prog 199 #[.string X] w fun e w'=>e=.returned (.bool ad)/\w'=w):=fun w=>by rw[<-had];exact UY X w (by have:=HN.o;omega)
      have dH:Hd (iY st T=(st && (ad && (decide (1<k) && decide (T[0]?=some 48))))):=by
       show _=_;rw[<-had,yJ.o];unfold iY;rw[Ie.o]
      clear had;have aJ:Hd (i<=j/\j<=q/\q<=s.size):=by
       have a1:=HJ.o;have a2:=HQ.o;have a3:=HN.o;exact⟨a1.1,by omega,by omega⟩
      have hw:IntKind.i64.wrap ((q:Int)+1)=((q+1:Nat):Int):=by rw[IntKind.wrap_i64];have:=aJ.o;omega
      have DY:Hd (¬s.data.toList[q]?=some 46):=by
       show ¬s.data.toList[q]?=some 46;rw[List.getElem?_eq_none (by simp;omega)];simp
      by_cases hk0:k=0
      ·have m1:=Ak (eQ.trans hk0);have m2:decide ((1:Int)<(X.size:Int))=false:=by simp;omega
       have dG:Hd (R=(2,q)):=by
        show R=(2,q);rw[HQ.o,<-HST.o,if_pos hk0,hk0];rfl
       clear hk0 eQ dH HST
       cases st with
       | false =>
        go_wp2_with (first|(go_at_call 199;refine(CD.o _).mono ?_;rintro e w' ⟨rfl,rfl⟩)|(go_at_call 111;refine(jc b s q c 2 q _ HU.o.1).mono ?_));rintro e w1 ⟨rfl,hr,hg⟩;have y0:=hr.c0;have y1:=hr.c1;have yf:=hr.f1;have HY:Hd (VS b s q 2 q w1/\w.grownBy w1 (some b)):=⟨hr,af HU.o.2 hg⟩;clear hr hg g0 g1 gf HU;go_wp2
        all_goals
         go_quiet (fail);go_wp2;go_roundw
         case rel=>exact⟨false,q,q,2,rfl,by have:=aJ.o;omega,by have:=aJ.o;omega,HY.o.1.drew _,au HY.o.2 _,fun h=>absurd h (by decide),fun _=>dG.o⟩
         case measure =>
          have e2:=(HY.o.1.drew nq).place;rw[dF.o];refine Nat.lt_of_le_of_lt (Nat.le_of_eq (congrArg (fun x=>2*(s.size-x)+0) e2)) ?_;have:=aJ.o;show 2*(s.size-q)+0<2*(s.size-j)+1;omega
       | true =>
        cases ad with
        | false =>
         go_wp2_with (first|(go_at_call 199;refine(CD.o _).mono ?_;rintro e w' ⟨rfl,rfl⟩)|(go_at_call 111;refine(jc b s q c 2 q _ HU.o.1).mono ?_));rintro e w1 ⟨rfl,hr,hg⟩;have y0:=hr.c0;have y1:=hr.c1;have yf:=hr.f1;have HY:Hd (VS b s q 2 q w1/\w.grownBy w1 (some b)):=⟨hr,af HU.o.2 hg⟩;clear hr hg g0 g1 gf HU;go_wp2
         all_goals
          go_quiet (fail);go_wp2;go_roundw
          case rel=>exact⟨false,q,q,2,rfl,by have:=aJ.o;omega,by have:=aJ.o;omega,HY.o.1.drew _,au HY.o.2 _,fun h=>absurd h (by decide),fun _=>dG.o⟩
          case measure =>
           have e2:=(HY.o.1.drew nq).place;rw[dF.o];refine Nat.lt_of_le_of_lt (Nat.le_of_eq (congrArg (fun x=>2*(s.size-x)+0) e2)) ?_;have:=aJ.o;show 2*(s.size-q)+0<2*(s.size-j)+1;omega
        | true =>
         go_wp2_with (first|(go_at_call 199;refine(CD.o _).mono ?_;rintro e w' ⟨rfl,rfl⟩)|(go_at_call 111;refine(jc b s q c 2 q _ HU.o.1).mono ?_));rintro e w1 ⟨rfl,hr,hg⟩;have y0:=hr.c0;have y1:=hr.c1;have yf:=hr.f1;have HY:Hd (VS b s q 2 q w1/\w.grownBy w1 (some b)):=⟨hr,af HU.o.2 hg⟩;clear hr hg g0 g1 gf HU;go_wp2
         all_goals
          go_quiet (fail);go_wp2;go_roundw
          case rel=>exact⟨false,q,q,2,rfl,by have:=aJ.o;omega,by have:=aJ.o;omega,HY.o.1.drew _,au HY.o.2 _,fun h=>absurd h (by decide),fun _=>dG.o⟩
          case measure =>
           have e2:=(HY.o.1.drew nq).place;rw[dF.o];refine Nat.lt_of_le_of_lt (Nat.le_of_eq (congrArg (fun x=>2*(s.size-x)+0) e2)) ?_;have:=aJ.o;show 2*(s.size-q)+0<2*(s.size-j)+1;omega
      ·have m1:=Am (fun h=>hk0 (eQ.symm.trans h));have DZ:0<X.size:=by omega
       have HT0:Hd (T[0]?=some X[0]):=by show T[0]?=some X[0];rw[<-yJ.o,jY X 0 DZ]
       have HZ:Hd ((if iY st T=true then(2,j) else if s.data.toList[j+k]?=some 46 then ak st s.data.toList (j+k+1) else(0,j+k))=R):=by
        have:=HST.o;rw[if_neg hk0]at this;exact this
       have HG:Hd (iY st T=false->R=(0,q)):=by
        intro h;have:=HZ.o;rw[if_neg (by rw[h];decide)]at this;rw[<-HQ.o,if_neg DY.o]at this;exact this.symm
       have sZ:Hd (X.size=k):=eQ;clear hk0 eQ HST
       cases st with
       | false =>
        have dG:Hd (R=(0,q)):=HG.o (by rw[dH.o];rfl);have HY:Hd (VS b s q 0 c U/\w.grownBy U (some b)):=HU.o;clear dH HG HZ HU;go_wp2_with (go_at_call 199;refine(CD.o _).mono ?_;rintro e w' ⟨rfl,rfl⟩)
        all_goals
         go_quiet (fail);go_wp2;go_roundw
         case rel=>exact⟨false,q,c,0,rfl,by have:=aJ.o;omega,by have:=aJ.o;omega,HY.o.1.drew _,au HY.o.2 _,fun _=>⟨fun h=>absurd h (by decide),fun _=>dG.o⟩,fun h=>absurd rfl h⟩
         case measure =>
          have e2:=(HY.o.1.drew nq).place;rw[dF.o];refine Nat.lt_of_le_of_lt (Nat.le_of_eq (congrArg (fun x=>2*(s.size-x)+0) e2)) ?_;have:=aJ.o;show 2*(s.size-q)+0<2*(s.size-j)+1;omega
       | true =>
        cases ad with
        | false =>
         have dG:Hd (R=(0,q)):=HG.o (by rw[dH.o];rfl);have HY:Hd (VS b s q 0 c U/\w.grownBy U (some b)):=HU.o;clear dH HG HZ HU;go_wp2_with (go_at_call 199;refine(CD.o _).mono ?_;rintro e w' ⟨rfl,rfl⟩)
         all_goals
          go_quiet (fail);go_wp2;go_roundw
          case rel=>exact⟨false,q,c,0,rfl,by have:=aJ.o;omega,by have:=aJ.o;omega,HY.o.1.drew _,au HY.o.2 _,fun _=>⟨fun h=>absurd h (by decide),fun _=>dG.o⟩,fun h=>absurd rfl h⟩
          case measure =>
           have e2:=(HY.o.1.drew nq).place;rw[dF.o];refine Nat.lt_of_le_of_lt (Nat.le_of_eq (congrArg (fun x=>2*(s.size-x)+0) e2)) ?_;have:=aJ.o;show 2*(s.size-q)+0<2*(s.size-j)+1;omega
        | true =>
         cases m2:decide ((1:Int)<(X.size:Int)) with
         | false =>
          have dG:Hd (R=(0,q)):=HG.o (by
           rw[dH.o];have h1:=of_decide_eq_false m2;have h2:=sZ.o;rw[show decide (1<k)=false from by simp;omega];rfl)
          have HY:Hd (VS b s q 0 c U/\w.grownBy U (some b)):=HU.o;clear dH HG HZ HU;go_wp2_with (go_at_call 199;refine(CD.o _).mono ?_;rintro e w' ⟨rfl,rfl⟩)
          all_goals
           go_quiet (fail);go_wp2;go_roundw
           case rel=>exact⟨false,q,c,0,rfl,by have:=aJ.o;omega,by have:=aJ.o;omega,HY.o.1.drew _,au HY.o.2 _,fun _=>⟨fun h=>absurd h (by decide),fun _=>dG.o⟩,fun h=>absurd rfl h⟩
           case measure =>
            have e2:=(HY.o.1.drew nq).place;rw[dF.o];refine Nat.lt_of_le_of_lt (Nat.le_of_eq (congrArg (fun x=>2*(s.size-x)+0) e2)) ?_;have:=aJ.o;show 2*(s.size-q)+0<2*(s.size-j)+1;omega
         | true =>
          cases m3:((X[0].toNat:Int) == 48) with
          | false =>
           have dG:Hd (R=(0,q)):=HG.o (by
            rw[dH.o,HT0.o];rw[show decide (some X[0]=some (48:UInt8))=false from by
             simp only[decide_eq_false_iff_not];intro e;have:=Option.some.inj e;rw[this]at m3;exact absurd m3 (by decide)]
            simp)
           have HY:Hd (VS b s q 0 c U/\w.grownBy U (some b)):=HU.o;clear dH HG HZ HU;go_wp2_with (go_at_call 199;refine(CD.o _).mono ?_;rintro e w' ⟨rfl,rfl⟩)
           all_goals
            go_quiet (fail);go_wp2;go_roundw
            case rel=>exact⟨false,q,c,0,rfl,by have:=aJ.o;omega,by have:=aJ.o;omega,HY.o.1.drew _,au HY.o.2 _,fun _=>⟨fun h=>absurd h (by decide),fun _=>dG.o⟩,fun h=>absurd rfl h⟩
            case measure =>
             have e2:=(HY.o.1.drew nq).place;rw[dF.o];refine Nat.lt_of_le_of_lt (Nat.le_of_eq (congrArg (fun x=>2*(s.size-x)+0) e2)) ?_;have:=aJ.o;show 2*(s.size-q)+0<2*(s.size-j)+1;omega
          | true =>
           have dG:Hd (R=(2,j)):=by
            show R=(2,j);rw[<-HZ.o,if_pos];have h1:=of_decide_eq_true m2;have h2:=sZ.o;rw[dH.o,HT0.o,show decide (1<k)=true from by simp;omega,show X[0]=48 from UInt8.toNat_inj.1 (by simp at m3;show X[0].toNat=48;omega)];decide
           clear dH HG HZ;go_wp2_with (first|(go_at_call 199;refine(CD.o _).mono ?_;rintro e w' ⟨rfl,rfl⟩)|(go_at_call 111;refine(jc b s q c 2 j _ HU.o.1).mono ?_))
           all_goals rintro e w1 ⟨rfl,hr,hg⟩
           all_goals
            have y0:=hr.c0;have y1:=hr.c1;have yf:=hr.f1;have HY:Hd (VS b s q 2 j w1/\w.grownBy w1 (some b)):=⟨hr,af HU.o.2 hg⟩;clear hr hg g0 g1 gf HU;go_wp2
            all_goals
             go_quiet (fail);go_wp2;go_roundw
             case rel=>exact⟨false,q,j,2,rfl,by have:=aJ.o;omega,by have:=aJ.o;omega,HY.o.1.drew _,au HY.o.2 _,fun h=>absurd h (by decide),fun _=>dG.o⟩
             case measure =>
              have e2:=(HY.o.1.drew nq).place;rw[dF.o];refine Nat.lt_of_le_of_lt (Nat.le_of_eq (congrArg (fun x=>2*(s.size-x)+0) e2)) ?_;have:=aJ.o;show 2*(s.size-q)+0<2*(s.size-j)+1;omega
end Go.Proofs.YtmkjelchiacogaaGreatDoor
