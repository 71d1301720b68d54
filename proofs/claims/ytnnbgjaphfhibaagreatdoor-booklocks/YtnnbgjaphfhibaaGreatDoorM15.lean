import Derived.Test.YtnnbgjaphfhibaaGreatDoorM14
import Derived.Deep.RegionHeld3
set_option linter.unusedVariables false
set_option linter.unusedSimpArgs false
set_option maxRecDepth 100000
set_option maxHeartbeats 6400000
open Go.Proofs.Tryz
namespace Go.Proofs.YtnnbgjaphfhibaaGreatDoor
open Go.RowKit Go.Joins
theorem Lm(p:Int->Bool)(l:List UInt8)(i:Nat):∀c∈ag l i (toR p l i-i),p (c.toNat:Int)=true:=by
 intro c hc;unfold ag toR runN at hc;rw[Nat.add_sub_cancel_left]at hc;have e:(l.drop i).take ((l.drop i).takeWhile (fun c=>p (c.toNat:Int))).length=(l.drop i).takeWhile (fun c=>p (c.toNat:Int)):=by
  have:=List.takeWhile_prefix (fun c:UInt8=>p (c.toNat:Int)) (l:=l.drop i);exact(List.prefix_iff_eq_take.1 this).symm
 rw[e]at hc;exact(List.all_takeWhile (p:=fun c:UInt8=>p (c.toNat:Int)) (l:=l.drop i) |> List.all_eq_true.1) c hc
theorem SS(l:List UInt8)(i k:Nat)(h:i+k<=l.length):(ag l i k).length=k:=by
 unfold ag;rw[List.length_take,List.length_drop];omega
theorem SV(l:List UInt8)(i k:Nat)(h:i<l.length):ag l i (k+1)=l[i] :: ag l (i+1) k:=by
 unfold ag;rw[List.drop_eq_getElem_cons h,List.take_succ_cons]
theorem aaO(l:List UInt8)(i a j:Nat)(hj:j<=l.length)(haj:a<j)(hall:∀c∈ag l a (j-a),au (c.toNat:Int)=true)(h18:j-a<=18)
  (h:(au (nx l i)=true/\a=i)\/((nx l i=43\/nx l i=45)/\a=i+1)) :
  Lib.atoiAll (ag l i (j-i))=.ok (if nx l i=45 then -(iq (ag l a (j-a)) 0:Int) else(iq (ag l a (j-a)) 0:Int)):=by
 have hlen:=SS l a (j-a) (by omega);have hne:ag l a (j-a)≠[]:=fun e=>by rw[e]at hlen;simp at hlen;omega
 rcases h with⟨h1,rfl⟩|⟨h1,rfl⟩
 ·rw[if_neg (fun e=>by rw[e]at h1;exact absurd h1 (by decide))];exact aaL _ hne (by omega) hall
 ·have hil:i<l.length:=by omega
  have e:j-i=(j-(i+1))+1:=by omega
  rw[e,SV l i _ hil];have hx:=pG l i hil
  rcases h1 with h1|h1
  ·have:l[i]=43:=by
    apply UInt8.toNat_inj.1;have:(l[i].toNat:Int)=43:=by rw[<-hx];exact h1
    show l[i].toNat=43;omega
   rw[this,if_neg (by rw[h1];decide)];exact aaM _ hne (by omega) hall
  ·have:l[i]=45:=by
    apply UInt8.toNat_inj.1;have:(l[i].toNat:Int)=45:=by rw[<-hx];exact h1
    show l[i].toNat=45;omega
   rw[this,if_pos h1];exact aaN _ hne (by omega) hall
open Go.RowKit Go.Joins
theorem aaP(w:World)(e:TypeId)(s:ByteArray):w.grownBy (Lib.bytesWorld w e s) none :=
 ⟨rfl,rfl,rfl,by rw[Lib.bytesWorld_size];omega,fun k hk _=>Lib.bytesWorld_at_old w e s k hk⟩
theorem aaQ(x:List UInt8)(v:Int)(hx:x.length<=1048576)(h:Lib.atoiAll x=.ok v)(w:World) :
  Calls prog 218 #[.string ⟨x.toArray⟩] w fun e w'=>e=.returned (.tuple #[.int .i64 v,.nilIface])/\w.grownBy w' none:=by
 have hz:(⟨x.toArray⟩:ByteArray).size=x.length:=by show x.toArray.size=_;simp
 refine(Any.strconv_Atoi_ok Tryz.lays172 ⟨x.toArray⟩ (by rw[hz];omega) v (by simpa using h) w).mono ?_;rintro e w' ⟨rfl,rfl|⟨t,rfl⟩⟩
 ·exact⟨rfl,ax _ _⟩
 ·refine⟨rfl,?_⟩;exact aaP _ _ _
def gU(l:List UInt8)(i:Nat):Nat:=if au (nx l i)=true then i else i+1
theorem aaR(l:List UInt8)(i:Nat):jf l i =
  if toR au l (gU l i)=gU l i\/(1<toR au l (gU l i)-gU l i/\nx l (gU l i)=48) then .error (2,gU l i)
  else if 18<toR au l (gU l i)-gU l i then .error (3,i)
  else .ok (if nx l i=45 then -(iq (ag l (gU l i) (toR au l (gU l i)-gU l i)) 0:Int) else(iq (ag l (gU l i) (toR au l (gU l i)-gU l i)) 0:Int),toR au l (gU l i)):=rfl
open Go.RowKit Go.Joins
theorem GH(X:ByteArray):X.toList.length=X.size:=by rw[ByteArray.toList_eq];exact Array.length_toList
theorem aaS(R:Nat)(s:ByteArray)(i T:Nat)(E:Int->TypeId × Value)(w:World)(h:Rd w R s i T)(hs:s.size<=1048576)(he:Es w E)(hR:Far R)
  (hx:au (nx s.data.toList i)=true\/nx s.data.toList i=43\/nx s.data.toList i=45) :
  Calls prog 197 #[.pointer (some ⟨R,0,none⟩)] w (Bo R s T E (jf s.data.toList i) w):=by
 have hl:s.data.toList.length=s.size:=by simp
 have hil:i<s.size:=by
  rw[<-hl]
  rcases hx with h|h|h
  ·have:=of_decide_eq_true h;exact bH (by omega)
  ·exact bH (by omega)
  ·exact bH (by omega)
 have CN:Hd (∀k w,Rd w R s k T->k<=s.size->Calls prog 104 #[.pointer (some ⟨R,0,none⟩)] w fun e w'=>e=.returned (.int .i64 (nx s.data.toList k))/\w.grownBy w' none):=fun k w h1 h2=>mV R s k T w h1 h2 hs
 have CB:Hd (∀c w,Calls prog 151 #[.int .i64 c] w fun e w'=>e=.returned (.bool (au c))/\w'=w):=Ff;have Lr:Hd (∀p w,Calls prog 195 #[.iface (E 2).1 (E 2).2,.int .i64 (p:Nat)] w fun e w'=>(∃v,e=.returned v/\aV w' v E 2 p)/\w.grownBy w' none):=fun p w=>rV p _ _ w
 have Lt:Hd (∀p w,Calls prog 195 #[.iface (E 3).1 (E 3).2,.int .i64 (p:Nat)] w fun e w'=>(∃v,e=.returned v/\aV w' v E 3 p)/\w.grownBy w' none):=fun p w=>rV p _ _ w
 have lI:Hd (∀w',w.grownBy w' (some R)->w'.cell? ⟨6,0,none⟩=some (.iface (E 2).1 (E 2).2)):=fun w' hg=>(he.grow hR hg).te
 have zC:Hd (∀w',w.grownBy w' (some R)->w'.cell? ⟨1,0,none⟩=some (.iface (E 3).1 (E 3).2)):=fun w' hg=>(he.grow hR hg).ra
 have CH:Hd (∀k w',w.grownBy w' (some R)->Rd w' R s k T->Calls prog 156 #[.pointer (some ⟨R,0,none⟩)] w' fun e w''=>(∃v,e=.returned v/\aV w'' v E 2 k)/\w'.grownBy w'' none):=fun k w' hg hr=>vO R s k T (E 2).1 (E 2).2 w' hr (he.grow hR hg).te
 obtain⟨ty2,SX⟩:∃ty,(E 2).1=ty:=⟨_,rfl⟩;obtain⟨pv2,hpv2⟩:∃pv,(E 2).2=pv:=⟨_,rfl⟩;obtain⟨ty3,SY⟩:∃ty,(E 3).1=ty:=⟨_,rfl⟩;obtain⟨pv3,S9⟩:∃pv,(E 3).2=pv:=⟨_,rfl⟩;rw[SX,hpv2]at Lr lI;rw[SY,S9]at Lt zC;have HST:Hd (∀k,k<s.size->au (nx s.data.toList k)=true->toR au s.data.toList k=toR au s.data.toList (k+1)):=fun k hk hb=>qH au _ k (by omega) hb
 have jO:Hd (∀k,au (nx s.data.toList k)=false->toR au s.data.toList k=k):=fun k hb=>lX au _ k hb
 have cZ:Hd (∀k,k<=s.size->au (nx s.data.toList k)=true->k<s.size):=fun k hk hb=>by
  apply Classical.byContradiction;intro hn;rw[jG _ _ (by omega)]at hb;exact absurd hb (by decide)
 have Lu:i<=gU s.data.toList i/\gU s.data.toList i<=s.size/\((au (nx s.data.toList i)=true/\gU s.data.toList i=i)\/((nx s.data.toList i=43\/nx s.data.toList i=45)/\gU s.data.toList i=i+1)):=by
  unfold gU
  by_cases hd:au (nx s.data.toList i)=true
  ·rw[if_pos hd];exact⟨by omega,by omega,Or.inl ⟨hd,rfl⟩⟩
  ·rw[if_neg hd];refine⟨by omega,by omega,Or.inr ⟨?_,rfl⟩⟩
   rcases hx with h|h
   ·exact absurd h hd
   ·exact h
 have hA1:Hd (gU s.data.toList i=if au (nx s.data.toList i)=true then i else i+1):=rfl;have hjj:=pI au s.data.toList (gU s.data.toList i) (by omega);rw[hl]at hjj;have hall:=Lm au s.data.toList (gU s.data.toList i);have kM:Hd (jf s.data.toList i=_):=aaR s.data.toList i;have hat:∀j,j<=s.size->gU s.data.toList i<j->(∀c∈ag s.data.toList (gU s.data.toList i) (j-gU s.data.toList i),au (c.toNat:Int)=true)->j-gU s.data.toList i<=18->Lib.atoiAll (ag s.data.toList i (j-i))=.ok (if nx s.data.toList i=45 then -(iq (ag s.data.toList (gU s.data.toList i) (j-gU s.data.toList i)) 0:Int) else(iq (ag s.data.toList (gU s.data.toList i) (j-gU s.data.toList i)) 0:Int)):=fun j h1 h2 h3 h4=>aaO s.data.toList i _ j (by omega) h2 h3 h4 Lu.2.2
 obtain⟨a,ha⟩:=zN (gU s.data.toList i);obtain⟨J,hJ⟩:=zN (toR au s.data.toList a);rw[ha]at Lu hA1 hjj hall kM hat;rw[hJ]at hjj hall kM;obtain⟨D,hD⟩:=zN (ag s.data.toList a (J-a));have hDl:D.length=J-a:=by rw[<-hD];exact SS _ _ _ (by omega)
 have hAt:a<J->J-a<=18->Lib.atoiAll (ag s.data.toList i (J-i))=.ok (if nx s.data.toList i=45 then -(iq D 0:Int) else(iq D 0:Int)):=fun h1 h2=>by
  have:=hat J hjj.2 h1 (by rw[hD];rw[hD]at hall;exact hall) h2;rw[hD]at this;exact this
 rw[hD]at kM;obtain⟨val,hval⟩:∃v,(if nx s.data.toList i=45 then -(iq D 0:Int) else(iq D 0:Int))=v:=⟨_,rfl⟩;rw[hval]at kM hAt;have HJ:Hd (toR au s.data.toList a=J):=hJ;obtain⟨W,hW⟩:=zN (ag s.data.toList i (J-i));have Tc:W.length<=1048576:=by rw[<-hW];unfold ag;rw[List.length_take,List.length_drop];omega
 rw[hW]at hAt;have s1:∀wx,(Instr.slice 9 (.string s) (some (.int .i64 (a:Int))) (some (.int .i64 (J:Int))) none).run prog wx=.ok (.string ⟨D.toArray⟩) wx:=fun wx=>by rw[<-hD];exact lC s a J hjj.1 hjj.2 wx
 have s2:∀wx,(Instr.slice 9 (.string s) (some (.int .i64 (i:Int))) (some (.int .i64 (J:Int))) none).run prog wx=.ok (.string ⟨W.toArray⟩) wx:=fun wx=>by rw[<-hW];exact lC s i J (by omega) hjj.2 wx
 have CA:Hd (a<J->J-a<=18->∀w,Calls prog 218 #[.string ⟨W.toArray⟩] w fun e w'=>e=.returned (.tuple #[.int .i64 val,.nilIface])/\w.grownBy w' none):=fun h1 h2 w=>aaQ W val Tc (hAt h1 h2) w
 have Td:a<J->∃c r,D=c :: r/\(c.toNat:Int)=nx s.data.toList a:=fun h1=>by
  have hal:a<s.data.toList.length:=by omega
  refine⟨s.data.toList[a],ag s.data.toList (a+1) (J-a-1),?_,(pG s.data.toList a hal).symm⟩;rw[<-hD,show J-a=(J-a-1)+1 by omega];exact SV _ _ _ hal
 obtain⟨X,hX⟩:∃X:ByteArray,⟨D.toArray⟩=X:=⟨_,rfl⟩;obtain⟨Y,hY⟩:∃Y:ByteArray,⟨W.toArray⟩=Y:=⟨_,rfl⟩;have hXl:X.toList=D:=by rw[<-hX,ByteArray.toList_eq]
 have gu:X.size=J-a:=by rw[<-hX];show D.toArray.size=_;simp[hDl]
 have HX0:Hd (∀h:0<X.size,((X[0]'h).toNat:Int)=nx s.data.toList a):=fun h=>by
  obtain⟨c,r,e1,e2⟩:=Td (by omega);subst hX;rw[<-e2];subst e1;rfl
 have LC:Hd (a=i->Y=X):=fun e=>by rw[<-hX,<-hY,<-hD,<-hW,e]
 rw[hX]at s1;rw[hY]at s2 CA;obtain⟨G,hG⟩:=zN (jf s.data.toList i);rw[hG]at kM ⊢;obtain⟨hia,has,-⟩:=Lu;obtain⟨haJ,hJs⟩:=hjj;obtain⟨z,hz⟩:=zN (nx s.data.toList a);rw[hz]at kM HX0;have pV:Hd (G=if J=a\/(1<J-a/\z=48) then .error (2,a) else if 18<J-a then .error (3,i) else .ok (val,J)):=kM.o;have H0:Hd (Rd w R s i T):=h;have C0:Hd (∀w',Rd w' R s i T->Calls prog 104 #[.pointer (some ⟨R,0,none⟩)] w' fun e w''=>e=.returned (.int .i64 (nx s.data.toList i))/\w'.grownBy w'' none):=fun w' h1=>CN.o i w' h1 (by omega)
 obtain⟨x,hxx⟩:=zN (nx s.data.toList i);rw[hxx]at C0 hA1;have LD:Hd (∀w,Calls prog 151 #[.int .i64 x] w fun e w'=>e=.returned (.bool (au x))/\w'=w):=CB.o x;obtain⟨b0,hb0⟩:∃b,au x=b:=⟨_,rfl⟩;rw[hb0]at LD hA1;obtain⟨c0,c1,-,-⟩:=h.cells;clear h hJ hG hD hval hW hX hY hXl hxx hb0 hz hAt hat Td hDl Tc hall ha kM SX hpv2 SY S9 he hx hl;go_enter func197,ntmps197;go_wp2_with (go_at_call 104;refine(C0.o _ H0.o).mono ?_);rintro e w1 ⟨rfl,hg1⟩;have HR1:Hd (Rd w1 R s i T):=H0.o.grow hg1;have ay:Hd (w.grownBy w1 (some R)):=aG (ax w (some R)) hg1;obtain⟨-,e1,-,ef⟩:=HR1.o.cells;have ef1:=ef 1;have dm:Hd (Rd (w1.setCell ⟨R,1,none⟩ (.int .i64 ((i:Int)+1))) R s (i+1) T):=HR1.o.set (i+1);have fB:Hd (w.grownBy (w1.setCell ⟨R,1,none⟩ (.int .i64 ((i:Int)+1))) (some R)):=aQ ay.o 1 _;clear hg1 ef c0 c1
 cases b0 with
 | true =>
  have HA:a=i:=by have:=hA1.o;rw[if_pos rfl]at this;exact this
  subst HA;have hXY:X=Y:=(LC.o rfl).symm;subst hXY;go_wp2_with (go_at_call 151;refine(LD.o _).mono ?_;rintro e wZ ⟨rfl,rfl⟩);have LG:=HR1;have LH:=ay;go_loopw [] (fun wr=>∃k:Nat,Rd wr R s k T/\k<=s.size/\toR au s.data.toList k=J/\w.grownBy wr (some R)) (fun wr=>s.size-(match wr.cell? ⟨R,1,none⟩ with|some (.int _ k)=>k.toNat|_=>0))
  case atStart=>exact⟨a,LG.o,by omega,HJ.o,LH.o⟩
  case round =>
   obtain⟨k,hrd,hk,hbl,hg⟩:=hrel;have dB:Hd (Rd wr R s k T):=hrd;have fQ:Hd (toR au s.data.toList k=J):=hbl;have HG:Hd (w.grownBy wr (some R)):=hg;have C1:Hd (Calls prog 104 #[.pointer (some ⟨R,0,none⟩)] wr fun e w'=>e=.returned (.int .i64 (nx s.data.toList k))/\wr.grownBy w' none):=CN.o k wr hrd hk;have gK:Hd ((match wr.cell? ⟨R,1,none⟩ with|some (.int _ k)=>k.toNat|_=>0)=k):=by show _=_;rw[hrd.cells.2.1];simp
   have dZ:Hd (au (nx s.data.toList k)=true->toR au s.data.toList k=toR au s.data.toList (k+1)):=fun hb=>HST.o k (cZ.o k hk hb) hb
   have HS2:Hd (au (nx s.data.toList k)=false->toR au s.data.toList k=k):=jO.o k;have HL2:Hd (au (nx s.data.toList k)=true->k<s.size):=cZ.o k hk;obtain⟨c,hc⟩:=zN (nx s.data.toList k);rw[hc]at C1 dZ HS2 HL2;have iK:Hd (∀w,Calls prog 151 #[.int .i64 c] w fun e w'=>e=.returned (.bool (au c))/\w'=w):=fun w=>CB.o c w
   obtain⟨b,hb⟩:=zN (au c);rw[hb]at iK dZ HS2 HL2;clear hrd hbl hg hc hb
   cases b with
   | true =>
    have hkl:k<s.size:=HL2.o (by trivial);have HN:Hd (toR au s.data.toList (k+1)=J):=(dZ.o (by trivial)).symm.trans fQ.o;go_wp2_with (first|(go_at_call 104;refine C1.o.mono ?_;rintro e w2 ⟨rfl,hg2⟩;obtain⟨-,d1,-,df⟩:=(dB.o.grow hg2).cells;have df1:=df 1)|(go_at_call 151;refine(iK.o _).mono ?_;rintro e w' ⟨rfl,rfl⟩));have jH:Hd (Rd (w'.setCell ⟨R,1,none⟩ (.int .i64 ((k:Int)+1))) R s (k+1) T):=(dB.o.grow hg2).set (k+1);refine⟨⟨k+1,jH.o,by omega,HN.o,aQ (aG HG.o hg2) 1 _⟩,?_⟩;rw[gK.o,jH.o.cells.2.1];simp;omega
   | false =>
    have uh:Hd (k=J):=(HS2.o (by trivial)).symm.trans fQ.o;go_wp2_with (first|(go_at_call 104;refine C1.o.mono ?_;rintro e w2 ⟨rfl,hg2⟩)|(go_at_call 151;refine(iK.o _).mono ?_;rintro e w' ⟨rfl,rfl⟩));have HR2:Hd (Rd w' R s J T):=by rw[<-uh.o];exact dB.o.grow hg2
    have HG2:Hd (w.grownBy w' (some R)):=aG HG.o hg2;obtain⟨d0,d1,-,-⟩:=HR2.o.cells;have dte:=lI.o _ HG2.o;have dra:=zC.o _ HG2.o;clear hg2
    by_cases hJa:J=a
    ·have hbe:X.toList.isEmpty=true:=by
      have:X.toList.length=0:=by rw[GH];omega
      rw[List.isEmpty_iff];exact List.length_eq_zero_iff.1 this
     have aA:Hd (G=.error (2,J)):=by
      show _=_;rw[pV.o,if_pos (Or.inl hJa),hJa]
     have rZ:Hd (∀n,Calls prog 156 #[.pointer (some ⟨R,0,none⟩)] (w'.drewN n) fun e w''=>(∃v,e=.returned v/\aV w'' v E 2 J)/\(w'.drewN n).grownBy w'' none):=fun n=>CH.o J _ (aj HG2.o n) HR2.o
     clear hJa;go_quiet (fail);go_wp2_with (go_at_call 156;refine(rZ.o _).mono ?_;rintro e w3 ⟨⟨v,rfl,hv⟩,hg3⟩);refine bodyPost_ret (results_tmp2 (t:=2) (u:=3) rfl _ _ _) rfl ?_;rw[aA.o];exact⟨fun n j hh=>(by cases hh),fun c p hh=>(by cases hh;exact⟨v,rfl,hv,J,Rd.grow (w:=World.drewN w' _) HR2.o hg3⟩),aG (aj HG2.o _) hg3⟩
    ·have hbe:X.toList.isEmpty=false:=by
      rw[Bool.eq_false_iff];intro hh;rw[List.isEmpty_iff]at hh;have:X.toList.length=0:=by rw[hh];rfl
      rw[GH]at this;omega
     have hX0:0<X.size:=by omega
     have hz0:=HX0.o hX0;have LJ:a<J:=by omega
     by_cases hzz:z=48/\1<J-a
     ·have aA:Hd (G=.error (2,a)):=by
       show _=_;rw[pV.o,if_pos (Or.inr ⟨hzz.2,hzz.1⟩)]
      have hq1:(z == 48)=true:=by simp[hzz.1]
      have hq2:(1:Int)<(X.size:Int):=by omega
      clear hJa hzz;go_quiet (fail);go_wp2_with (go_at_call 195;refine(Lr.o _ _).mono ?_;rintro e w3 ⟨⟨v,rfl,hv⟩,hg3⟩);refine bodyPost_ret (results_tmp2 (t:=2) (u:=3) rfl _ _ _) rfl ?_;rw[aA.o];exact⟨fun n j hh=>(by cases hh),fun c p hh=>(by cases hh;exact⟨v,rfl,hv,J,Rd.grow (w:=World.drewN w' _) HR2.o hg3⟩),aG (aj HG2.o _) hg3⟩
     ·have aK:Hd (G=if 18<J-a then .error (3,a) else .ok (val,J)):=by
       show _=_;rw[pV.o,if_neg (by rintro(h|h);exact hJa h;exact hzz ⟨h.2,h.1⟩)]
      have hcase:((z == 48)=true/\(X.size:Int)<=1)\/(z == 48)=false:=by
       by_cases h:z=48
       ·exact Or.inl ⟨by simp[h],by omega⟩
       ·exact Or.inr (by simp[h])
      clear hzz hJa
      by_cases h18:18<J-a
      ·have aA:Hd (G=.error (3,a)):=by show _=_;rw[aK.o,if_pos h18]
       have hq2:(18:Int)<(X.size:Int):=by omega
       clear h18;go_quiet (fail)
       rcases hcase with⟨hq,hq3⟩|hq
       ·exfalso;omega
       ·go_wp2_with (go_at_call 195;refine(Lt.o _ _).mono ?_;rintro e w3 ⟨⟨v,rfl,hv⟩,hg3⟩);refine bodyPost_ret (results_tmp2 (t:=2) (u:=3) rfl _ _ _) rfl ?_;rw[aA.o];exact⟨fun n j hh=>(by cases hh),fun c p hh=>(by cases hh;exact⟨v,rfl,hv,J,Rd.grow (w:=World.drewN w' _) HR2.o hg3⟩),aG (aj HG2.o _) hg3⟩
      ·have aA:Hd (G=.ok (val,J)):=by show _=_;rw[aK.o,if_neg h18]
       have hq2:(X.size:Int)<=18:=by omega
       have vZ:Hd (∀w,Calls prog 218 #[.string X] w fun e w'=>e=.returned (.tuple #[.int .i64 val,.nilIface])/\w.grownBy w' none):=CA.o LJ (by omega);clear h18;go_quiet (fail)
       rcases hcase with⟨hq,hq3⟩|hq
       all_goals (
        go_wp2
        go_region_held3 (fun u=>u.cell? ⟨R,0,none⟩=some (.string s)/\u.cell? ⟨R,1,none⟩=some (.int .i64 (J:Int))) ((first|exact⟨World.grownBy.cell (by assumption) (And.left (by assumption)) (by simp),World.grownBy.cell (by assumption) (And.right (by assumption)) (by simp)⟩|go_keep)) (first|(go_at_call 218;refine(vZ.o _).mono ?_;rintro e w6 ⟨rfl,dK⟩))
        have kZ:w'.grownBy w6 none:=⟨dK.os,dK.tape,dK.output,dK.size,dK.block⟩;have l9:Hd (Rd w6 R s J T):=HR2.o.grow kZ;have kX:Hd (w.grownBy w6 (some R)):=aG HG2.o kZ;clear dK kZ;go_wp2;refine bodyPost_ret (results_tmp2 (t:=2) (u:=3) rfl _ _ _) rfl ?_;rw[aA.o];exact⟨fun n j hh=>(by cases hh;exact⟨rfl,l9.o⟩),fun c p hh=>(by cases hh),kX.o⟩)
 | false =>
  have HA:Hd (a=i+1):=by have:=hA1.o;rw[if_neg (by decide)]at this;exact this
  have hai:(i:Int)+1=(a:Int):=by have:=HA.o;omega
  go_wp2_with (go_at_call 151;refine(LD.o _).mono ?_;rintro e wZ ⟨rfl,rfl⟩);have LG:Hd (Rd (wZ.setCell ⟨R,1,none⟩ (.int .i64 (a:Int))) R s a T):=by
   have:=dm.o;rw[hai,<-HA.o]at this;exact this
  have LH:Hd (w.grownBy (wZ.setCell ⟨R,1,none⟩ (.int .i64 (a:Int))) (some R)):=by
   have:=fB.o;rw[hai]at this;exact this
  try rw[hai]
  clear hai;go_loopw [] (fun wr=>∃k:Nat,Rd wr R s k T/\k<=s.size/\toR au s.data.toList k=J/\w.grownBy wr (some R)) (fun wr=>s.size-(match wr.cell? ⟨R,1,none⟩ with|some (.int _ k)=>k.toNat|_=>0))
  case atStart=>exact⟨a,LG.o,by omega,HJ.o,LH.o⟩
  case round =>
   obtain⟨k,hrd,hk,hbl,hg⟩:=hrel;have dB:Hd (Rd wr R s k T):=hrd;have fQ:Hd (toR au s.data.toList k=J):=hbl;have HG:Hd (w.grownBy wr (some R)):=hg;have C1:Hd (Calls prog 104 #[.pointer (some ⟨R,0,none⟩)] wr fun e w'=>e=.returned (.int .i64 (nx s.data.toList k))/\wr.grownBy w' none):=CN.o k wr hrd hk;have gK:Hd ((match wr.cell? ⟨R,1,none⟩ with|some (.int _ k)=>k.toNat|_=>0)=k):=by show _=_;rw[hrd.cells.2.1];simp
   have dZ:Hd (au (nx s.data.toList k)=true->toR au s.data.toList k=toR au s.data.toList (k+1)):=fun hb=>HST.o k (cZ.o k hk hb) hb
   have HS2:Hd (au (nx s.data.toList k)=false->toR au s.data.toList k=k):=jO.o k;have HL2:Hd (au (nx s.data.toList k)=true->k<s.size):=cZ.o k hk;obtain⟨c,hc⟩:=zN (nx s.data.toList k);rw[hc]at C1 dZ HS2 HL2;have iK:Hd (∀w,Calls prog 151 #[.int .i64 c] w fun e w'=>e=.returned (.bool (au c))/\w'=w):=fun w=>CB.o c w
   obtain⟨b,hb⟩:=zN (au c);rw[hb]at iK dZ HS2 HL2;clear hrd hbl hg hc hb
   cases b with
   | true =>
    have hkl:k<s.size:=HL2.o (by trivial);have HN:Hd (toR au s.data.toList (k+1)=J):=(dZ.o (by trivial)).symm.trans fQ.o;go_wp2_with (first|(go_at_call 104;refine C1.o.mono ?_;rintro e w2 ⟨rfl,hg2⟩;obtain⟨-,d1,-,df⟩:=(dB.o.grow hg2).cells;have df1:=df 1)|(go_at_call 151;refine(iK.o _).mono ?_;rintro e w' ⟨rfl,rfl⟩));have jH:Hd (Rd (w'.setCell ⟨R,1,none⟩ (.int .i64 ((k:Int)+1))) R s (k+1) T):=(dB.o.grow hg2).set (k+1);refine⟨⟨k+1,jH.o,by omega,HN.o,aQ (aG HG.o hg2) 1 _⟩,?_⟩;rw[gK.o,jH.o.cells.2.1];simp;omega
   | false =>
    have uh:Hd (k=J):=(HS2.o (by trivial)).symm.trans fQ.o;go_wp2_with (first|(go_at_call 104;refine C1.o.mono ?_;rintro e w2 ⟨rfl,hg2⟩)|(go_at_call 151;refine(iK.o _).mono ?_;rintro e w' ⟨rfl,rfl⟩));have HR2:Hd (Rd w' R s J T):=by rw[<-uh.o];exact dB.o.grow hg2
    have HG2:Hd (w.grownBy w' (some R)):=aG HG.o hg2;obtain⟨d0,d1,-,-⟩:=HR2.o.cells;have dte:=lI.o _ HG2.o;have dra:=zC.o _ HG2.o;clear hg2
    by_cases hJa:J=a
    ·have hbe:X.toList.isEmpty=true:=by
      have:X.toList.length=0:=by rw[GH];omega
      rw[List.isEmpty_iff];exact List.length_eq_zero_iff.1 this
     have aA:Hd (G=.error (2,J)):=by
      show _=_;rw[pV.o,if_pos (Or.inl hJa),hJa]
     have rZ:Hd (∀n,Calls prog 156 #[.pointer (some ⟨R,0,none⟩)] (w'.drewN n) fun e w''=>(∃v,e=.returned v/\aV w'' v E 2 J)/\(w'.drewN n).grownBy w'' none):=fun n=>CH.o J _ (aj HG2.o n) HR2.o
     clear hJa;go_quiet (fail);go_wp2_with (go_at_call 156;refine(rZ.o _).mono ?_;rintro e w3 ⟨⟨v,rfl,hv⟩,hg3⟩);refine bodyPost_ret (results_tmp2 (t:=2) (u:=3) rfl _ _ _) rfl ?_;rw[aA.o];exact⟨fun n j hh=>(by cases hh),fun c p hh=>(by cases hh;exact⟨v,rfl,hv,J,Rd.grow (w:=World.drewN w' _) HR2.o hg3⟩),aG (aj HG2.o _) hg3⟩
    ·have hbe:X.toList.isEmpty=false:=by
      rw[Bool.eq_false_iff];intro hh;rw[List.isEmpty_iff]at hh;have:X.toList.length=0:=by rw[hh];rfl
      rw[GH]at this;omega
     have hX0:0<X.size:=by omega
     have hz0:=HX0.o hX0;have LJ:a<J:=by omega
     by_cases hzz:z=48/\1<J-a
     ·have aA:Hd (G=.error (2,a)):=by
       show _=_;rw[pV.o,if_pos (Or.inr ⟨hzz.2,hzz.1⟩)]
      have hq1:(z == 48)=true:=by simp[hzz.1]
      have hq2:(1:Int)<(X.size:Int):=by omega
      clear hJa hzz;go_quiet (fail);go_wp2_with (go_at_call 195;refine(Lr.o _ _).mono ?_;rintro e w3 ⟨⟨v,rfl,hv⟩,hg3⟩);refine bodyPost_ret (results_tmp2 (t:=2) (u:=3) rfl _ _ _) rfl ?_;rw[aA.o];exact⟨fun n j hh=>(by cases hh),fun c p hh=>(by cases hh;exact⟨v,rfl,hv,J,Rd.grow (w:=World.drewN w' _) HR2.o hg3⟩),aG (aj HG2.o _) hg3⟩
     ·have aK:Hd (G=if 18<J-a then .error (3,i) else .ok (val,J)):=by
       show _=_;rw[pV.o,if_neg (by rintro(h|h);exact hJa h;exact hzz ⟨h.2,h.1⟩)]
      have hcase:((z == 48)=true/\(X.size:Int)<=1)\/(z == 48)=false:=by
       by_cases h:z=48
       ·exact Or.inl ⟨by simp[h],by omega⟩
       ·exact Or.inr (by simp[h])
      clear hzz hJa
      by_cases h18:18<J-a
      ·have aA:Hd (G=.error (3,i)):=by show _=_;rw[aK.o,if_pos h18]
       have hq2:(18:Int)<(X.size:Int):=by omega
       clear h18;go_quiet (fail)
       rcases hcase with⟨hq,hq3⟩|hq
       ·exfalso;omega
       ·go_wp2_with (go_at_call 195;refine(Lt.o _ _).mono ?_;rintro e w3 ⟨⟨v,rfl,hv⟩,hg3⟩);refine bodyPost_ret (results_tmp2 (t:=2) (u:=3) rfl _ _ _) rfl ?_;rw[aA.o];exact⟨fun n j hh=>(by cases hh),fun c p hh=>(by cases hh;exact⟨v,rfl,hv,J,Rd.grow (w:=World.drewN w' _) HR2.o hg3⟩),aG (aj HG2.o _) hg3⟩
      ·have aA:Hd (G=.ok (val,J)):=by show _=_;rw[aK.o,if_neg h18]
       have hq2:(X.size:Int)<=18:=by omega
       have vZ:Hd (∀w,Calls prog 218 #[.string Y] w fun e w'=>e=.returned (.tuple #[.int .i64 val,.nilIface])/\w.grownBy w' none):=CA.o LJ (by omega);clear h18;go_quiet (fail)
       rcases hcase with⟨hq,hq3⟩|hq
       all_goals (
        go_wp2
        go_region_held3 (fun u=>u.cell? ⟨R,0,none⟩=some (.string s)/\u.cell? ⟨R,1,none⟩=some (.int .i64 (J:Int))) ((first|exact⟨World.grownBy.cell (by assumption) (And.left (by assumption)) (by simp),World.grownBy.cell (by assumption) (And.right (by assumption)) (by simp)⟩|go_keep)) (first|(go_at_call 218;refine(vZ.o _).mono ?_;rintro e w6 ⟨rfl,dK⟩))
        have kZ:w'.grownBy w6 none:=⟨dK.os,dK.tape,dK.output,dK.size,dK.block⟩;have l9:Hd (Rd w6 R s J T):=HR2.o.grow kZ;have kX:Hd (w.grownBy w6 (some R)):=aG HG2.o kZ;clear dK kZ;go_wp2;refine bodyPost_ret (results_tmp2 (t:=2) (u:=3) rfl _ _ _) rfl ?_;rw[aA.o];exact⟨fun n j hh=>(by cases hh;exact⟨rfl,l9.o⟩),fun c p hh=>(by cases hh),kX.o⟩)
open Go.RowKit Go.Maps Go.WideMaps Go.Joins
theorem Tr.keepR{w w':World}{B T:Nat}{ns:List Tn}{own:List Nat}{now R:Nat}{s:ByteArray}{i T':Nat}(h:Tr w B T ns own now)(hr:Rd w R s i T')(hg:w.grownBy w' (some R)):Tr w' B T ns own now:=by
 obtain⟨N,c,M,xs,ks,hD⟩:=h;exact⟨N,c,M,xs,ks,hD.keeps (aav hr hg)⟩
theorem Rd.fr{w w':World}{R:Nat}{s:ByteArray}{i T B:Nat}(h:Rd w R s i T)(hf:Fr B w w'):Rd w' R s i T:=(hf.oth _ _ _ _ h (by decide) (by decide) (by decide)).trans h
theorem Tf(ns:List Tn)(up:Nat)(x:Tn)(h:ns.length<(addN ns up x).length):(addN ns up x)[ns.length]'h=x:=by
 obtain⟨X,h1,h2⟩:=JR ns up x;have:(addN ns up x)[ns.length]?=some x:=by rw[h2,<-h1];simp
 rw[List.getElem?_eq_getElem h]at this;exact Option.some.inj this
theorem Ti(ns:List Tn)(own:List Nat)(up:Nat)(x y:Tn)(h1:y.kd=x.kd)(h2:y.ky=x.ky)(h3:y.ks=x.ks):hold (addN ns up y) own=hold (addN ns up x) own:=by
 have hl:ns.length<(addN ns up x).length:=by rw[dh];omega
 have e:=Tf ns up x hl;obtain⟨a,b,c⟩:=Yw (addN ns up x) ns.length y hl (by rw[e];exact h1) (by rw[e];exact h2) (by rw[e];exact h3);rw[JS]at a b c;exact Yx own a b c
theorem Tr.last{w:World}{B T:Nat}{ns:List Tn}{own:List Nat}{now up:Nat}{kd:Int}{k:List UInt8}{p:Nat}(h:Tr w B T (addN ns up ⟨kd,k,[],0,[],p⟩) own now) :
  ∃N cc,w.cell? ⟨T,0,none⟩=some (.slice (some ⟨N,0,none⟩) (ns.length+1) cc)/\(∃cs,w.heap[N]?=some (.cells cs 64 (0,0)))/\B<=N/\w.cell? ⟨N,ns.length*6+2,none⟩=some (.string ⟨#[]⟩)/\w.cell? ⟨N,ns.length*6+3,none⟩=some (.int .i64 0) ∧
   (∀t:List UInt8,Tr (w.setCell ⟨N,ns.length*6+2,none⟩ (.string ⟨t.toArray⟩)) B T (addN ns up ⟨kd,k,t,0,[],p⟩) own now)/\∀v:Int,Tr (w.setCell ⟨N,ns.length*6+3,none⟩ (.int .i64 v)) B T (addN ns up ⟨kd,k,[],v,[],p⟩) own now:=by
 obtain⟨N,c,M,xs,ks,hD⟩:=h;have hl:ns.length<(addN ns up ⟨kd,k,[],0,[],p⟩).length:=by rw[dh];omega
 have e:=Tf ns up ⟨kd,k,[],0,[],p⟩ hl;have hc:=hD.cells.1;rw[dh]at hc;obtain⟨-,-,n2,n3,-,-,-⟩:=hD.node ns.length hl;rw[e]at n2 n3;refine⟨N,c,hc,hD.rowT,(bz hD.row rfl).1,n2,n3,fun t=>?_,fun v=>?_⟩
 ·refine⟨N,c,M,xs.set (ns.length*6+2) (.string ⟨t.toArray⟩),ks,?_⟩;have h1:=hD.cellSet ns.length 2 (.string ⟨t.toArray⟩) ⟨kd,k,t,0,[],p⟩ hl (by omega) (by omega) (by rw[e]) (fun j u hu=>by
   rw[e]at hu
   by_cases hj:j=2
   ·subst hj;rw[if_pos rfl]at hu;exact hu
   ·rw[if_neg hj]at hu
    match j,hj,hu with
    | 0,_,hu=>exact hu
    | 1,_,hu=>exact hu
    | 3,_,hu=>exact hu
    | 4,_,hu=>exact hu
    | 5,_,hu=>exact hu
    | j+6,_,hu=>simp at hu)
  rw[JS]at h1;rw[Ti ns own up ⟨kd,k,[],0,[],p⟩ ⟨kd,k,t,0,[],p⟩ rfl rfl rfl,dh,<-dh ns up ⟨kd,k,[],0,[],p⟩];exact h1
 ·refine⟨N,c,M,xs.set (ns.length*6+3) (.int .i64 v),ks,?_⟩;have h1:=hD.cellSet ns.length 3 (.int .i64 v) ⟨kd,k,[],v,[],p⟩ hl (by omega) (by omega) (by rw[e]) (fun j u hu=>by
   rw[e]at hu
   by_cases hj:j=3
   ·subst hj;rw[if_pos rfl]at hu;exact hu
   ·rw[if_neg hj]at hu
    match j,hj,hu with
    | 0,_,hu=>exact hu
    | 1,_,hu=>exact hu
    | 2,_,hu=>exact hu
    | 4,_,hu=>exact hu
    | 5,_,hu=>exact hu
    | j+6,_,hu=>simp at hu)
  rw[JS]at h1;rw[Ti ns own up ⟨kd,k,[],0,[],p⟩ ⟨kd,k,[],v,[],p⟩ rfl rfl rfl,dh,<-dh ns up ⟨kd,k,[],0,[],p⟩];exact h1
theorem LK{w:World}{v:Value}{E:Int->TypeId × Value}{c:Int}{p N o:Nat}{cs:Array Value}{x:Value}(h:aV w v E c p)(hN:w.heap[N]?=some (.cells cs 64 (0,0))):aV (w.setCell ⟨N,o,none⟩ x) v E c p:=by
 obtain⟨F,h1,h2⟩:=h;exact⟨F,h1,(heap_setCell_other _ _ _ _ (aP h2 hN (by decide))).trans h2⟩
theorem Rd.node{w:World}{R:Nat}{s:ByteArray}{i T N o:Nat}{cs:Array Value}{x:Value}(h:Rd w R s i T)(hN:w.heap[N]?=some (.cells cs 64 (0,0))):Rd (w.setCell ⟨N,o,none⟩ x) R s i T:=(heap_setCell_other _ _ _ _ (aP h hN (by decide))).trans h
theorem wI{w w1:World}{B b:Nat}(h:Below B w w1)(hb:B<=b)(o:Nat)(v:Value):Below B w (w1.setCell ⟨b,o,none⟩ v):=⟨h.os,h.tape,h.output,by have:=h.size;simpa [World.setCell] using this,fun k hk=>(heap_setCell_other _ _ _ _ (by simp;omega)).trans (h.block k hk)⟩
theorem nG{w w':World}{B:Nat}(hg:w.grownBy w' none)(hB:B<=w.heap.size):Below B w w':=⟨hg.os,hg.tape,hg.output,hg.size,fun k hk=>hg.block k (by omega) (by simp)⟩
def qX(B R T:Nat)(s:ByteArray)(E:Int->TypeId × Value)(own:List Nat)(now:Nat)(r:Rs (Nat × List Tn))(w:World)(e:Ending)(w':World):Prop :=
 (∀j ns,r=.ok (j,ns)->e=.returned .nilIface/\Rd w' R s j T/\Tr w' B T ns own now)/\(∀c p,r=.error (c,p)->∃v,e=.returned v/\aV w' v E c p)/\Below B w w'
def Ce(f:Nat):Prop:=∀(B R T:Nat) (s:ByteArray) (E:Int->TypeId × Value) (own:List Nat) (now i up:Nat) (k:List UInt8) (p d:Nat) (ns:List Tn) (w:World),Rd w R s i T->Tr w B T ns own now->Gl w B E->B<=R->i<=s.size->s.size<=100000->WF ns own->WT ns->up<ns.length->¬ak ns up=2->(ak ns up=0->ai ns up k=none)->k.length<=1048576->d<=8->ns.length+own.length+(s.size-i)<=700000->2*(s.size-i)+1<=f →
 Calls prog 154 #[.pointer (some ⟨R,0,none⟩),.int .i64 (up:Nat),.agg #[.string ⟨k.toArray⟩,.int .i64 (p:Nat)],.int .i64 (d:Nat)] w (qX B R T s E own now (val s.data.toList f i up k p d ns) w)
def Tj(f:Nat):Prop:=∀(B R T:Nat) (s:ByteArray) (E:Int->TypeId × Value) (own:List Nat) (now i up d:Nat) (ns:List Tn) (w:World),Rd w R s i T->Tr w B T ns own now->Gl w B E->B<=R->i<s.size->s.size<=100000->WF ns own->WT ns->up<ns.length->ak ns up=1->d<=8->ns.length+own.length+(s.size-i)<=700001->2*(s.size-i)<=f →
 Calls prog 199 #[.pointer (some ⟨R,0,none⟩),.int .i64 (up:Nat),.int .i64 (d:Nat)] w (qX B R T s E own now (lst s.data.toList f (i+1) up d ns) w)
open Go.RowKit Go.Maps Go.WideMaps Go.Joins
theorem aaT(l:List UInt8):∀(f i:Nat) (c:Int) (p:Nat),gap l f i=.error (c,p)->c=2:=by
 intro f
 induction f with
 | zero=>intro i c p h;cases h;rfl
 | succ f ih =>
  intro i c p h;rw[ui]at h;split at h
  ·cases h;rfl
  ·split at h
   ·exact ih _ c p h
   ·cases h
def GI(B R T:Nat)(s:ByteArray)(E:Int->TypeId × Value)(own:List Nat)(now:Nat)(m:List Tn)(g:Rs Nat)(w:World)(e:Ending)(w':World):Prop:=(∀j,g=.ok j->e=.returned .nilIface/\Rd w' R s j T/\Tr w' B T m own now)/\(∀c p,g=.error (c,p)->∃F,e=.returned (.iface 130 (.pointer (some ⟨F,0,none⟩)))/\aV w' (.iface 130 (.pointer (some ⟨F,0,none⟩))) E c p)/\Below B w w'
theorem aaU(B R T:Nat)(s:ByteArray)(E:Int->TypeId × Value)(own:List Nat)(now i:Nat)(m:List Tn)(w:World)(h:Rd w R s i T)(ht:Tr w B T m own now)(G:Gl w B E)(hR:B<=R)(hi:i<=s.size)(hs:s.size<=100000) :
  Calls prog 219 #[.pointer (some ⟨R,0,none⟩)] w (GI B R T s E own now m (gap s.data.toList (s.data.toList.length+1) i) w) :=
 (YD R s i T (E 2).1 (E 2).2 w h hi (by omega) G.es.te (zA G.lo hR).te).mono fun e w' ⟨h1,h2,h3⟩=>⟨fun j hj=>⟨(h1 j hj).1,(h1 j hj).2,ht.keepR h h3⟩,fun c p hp=>by
  have hc:=aaT _ _ _ _ _ hp;subst hc;obtain⟨v,e1,F,rfl,hF⟩:=h2 2 p hp;exact⟨F,e1,F,rfl,hF⟩,kz h3 hR ht.base⟩
def zD(B R T:Nat)(s:ByteArray)(E:Int->TypeId × Value)(own:List Nat)(now:Nat)(m:List Tn)(r:Rs Nat)(w:World)(e:Ending)(w':World):Prop:=(∀j,r=.ok j->e=.returned .nilIface/\Rd w' R s j T/\Tr w' B T m own now)/\(∀c p,r=.error (c,p)->∃F,e=.returned (.iface 130 (.pointer (some ⟨F,0,none⟩)))/\aV w' (.iface 130 (.pointer (some ⟨F,0,none⟩))) E c p)/\Below B w w'
theorem Tm(B R T:Nat)(s:ByteArray)(E:Int->TypeId × Value)(own:List Nat)(now i:Nat)(c:Int)(hc:0<=c)(m:List Tn)(w:World)(h:Rd w R s i T)(ht:Tr w B T m own now)(G:Gl w B E)(hR:B<=R)(hi:i<=s.size)(hs:s.size<=100000) :
  Calls prog 109 #[.pointer (some ⟨R,0,none⟩),.int .i64 c] w (zD B R T s E own now m (must s.data.toList i c) w) :=
 (JX R s i T c (E 2).1 (E 2).2 w h hi (by omega) hc G.es.te).mono fun e w' ⟨h1,h2,h3⟩=>by
  unfold must
  by_cases hx:nx s.data.toList i=c
  ·rw[if_pos hx];exact⟨fun j hj=>(by cases hj;exact⟨(h1 hx).1,(h1 hx).2,ht.keepR h h3⟩),fun c p hp=>(by cases hp),kz h3 hR ht.base⟩
  ·rw[if_neg hx];obtain⟨⟨v,e1,F,rfl,hF⟩,-⟩:=h2 hx;exact⟨fun j hj=>(by cases hj),fun c p hp=>(by cases hp;exact⟨F,e1,F,rfl,hF⟩),kz h3 hR ht.base⟩
theorem aaV(l:List UInt8)(f i up d:Nat)(ns:List Tn):lst l (f+1) i up d ns =
  match gap l (l.length+1) i with
  | .error e=>.error e
  | .ok j =>
   if nx l j=93 then(match must l j 93 with | .error e=>.error e | .ok q=>.ok (q,ns))
   else match val l f j up [] j d ns with
    | .error e=>.error e
    | .ok (j1,ns1)=>match gap l (l.length+1) j1 with
     | .error e=>.error e
     | .ok j2=>if nx l j2=44 then lst l f (j2+1) up d ns1 else(match must l j2 93 with | .error e=>.error e | .ok q=>.ok (q,ns1)):=by
 rw[Cc]
 cases gap l (l.length+1) i with
 | error e=>rfl
 | ok j =>
  simp only[]
  by_cases h:nx l j=93
  ·rw[if_pos h,if_pos h];unfold must;rw[if_pos h]
  ·rw[if_neg h,if_neg h]
   cases val l f j up [] j d ns with
   | error e=>rfl
   | ok q =>
    obtain⟨j1,ns1⟩:=q;simp only[]
    cases gap l (l.length+1) j1 with
    | error e=>rfl
    | ok j2 =>
     simp only[]
     by_cases h4:nx l j2=44
     ·rw[if_pos h4,if_pos h4]
     ·rw[if_neg h4,if_neg h4];unfold must
      by_cases h9:nx l j2=93
      ·rw[if_pos h9,if_pos h9]
      ·rw[if_neg h9,if_neg h9]
theorem aaW{B R T:Nat}{s:ByteArray}{E:Int->TypeId × Value}{own:List Nat}{now:Nat}{c:Int}{p:Nat}{w w':World}{e:Ending}(h:qX B R T s E own now (.error (c,p)) w e w'):∃F,e=.returned (.iface 130 (.pointer (some ⟨F,0,none⟩)))/\aV w' (.iface 130 (.pointer (some ⟨F,0,none⟩))) E c p:=by
 obtain⟨v,e1,F,rfl,hF⟩:=h.2.1 c p rfl;exact⟨F,e1,F,rfl,hF⟩
structure Lk(B R T:Nat)(s:ByteArray)(own:List Nat)(now i up:Nat)(ns:List Tn)(w:World)(kx:Nat)(m:List Tn)(wr:World):Prop where
 rd:Rd wr R s kx T
 tr:Tr wr B T m own now
 wf:WF m own
 wt:WT m
 ul:up<m.length
 kd:ak m up=1
 le:kx<=s.size
 nn:m.length+i+1<=ns.length+kx
 be:Below B w wr
theorem Lk.gb{B R T:Nat}{s:ByteArray}{own:List Nat}{now i up:Nat}{ns:List Tn}{w:World}{kx:Nat}{m:List Tn}{wr w':World}(h:Lk B R T s own now i up ns w kx m wr)(hg:wr.grownBy w' none):Lk B R T s own now i up ns w kx m w':=⟨h.rd.grow hg,h.tr.gb hg,h.wf,h.wt,h.ul,h.kd,h.le,h.nn,h.be.trans (nG hg h.tr.base)⟩
theorem Lk.to{B R T:Nat}{s:ByteArray}{own:List Nat}{now i up:Nat}{ns:List Tn}{w:World}{kx j:Nat}{m:List Tn}{wr w':World}(h:Lk B R T s own now i up ns w kx m wr)(hr:Rd w' R s j T)(ht:Tr w' B T m own now)(hb:Below B wr w')(h1:kx<=j)(h2:j<=s.size):Lk B R T s own now i up ns w j m w':=⟨hr,ht,h.wf,h.wt,h.ul,h.kd,h2,by have:=h.nn;omega,h.be.trans hb⟩
theorem Lk.ad{B R T:Nat}{s:ByteArray}{own:List Nat}{now i up:Nat}{ns:List Tn}{w:World}{kx j:Nat}{m m1:List Tn}{wr w':World}(h:Lk B R T s own now i up ns w kx m wr)(A:Ad m m1 own kx j s.size)(hr:Rd w' R s j T)(ht:Tr w' B T m1 own now)(hb:Below B wr w'):Lk B R T s own now i up ns w j m1 w':=⟨hr,ht,A.wf,A.wt,Nat.lt_of_lt_of_le h.ul A.lo,(A.kd up h.ul).trans h.kd,A.en,by have:=h.nn;have:=A.hi;omega,h.be.trans hb⟩
theorem aaX(F:Nat)(IH:∀f,f<F->Ce f):Tj F:=by
 intro B R T s E own now i up d ns w h htr G hR hi hs W V hu h1 hd hsz hF;have hl:s.data.toList.length=s.size:=by simp
 have CG:Hd (∀kx m wr,Lk B R T s own now i up ns w kx m wr->Calls prog 219 #[.pointer (some ⟨R,0,none⟩)] wr (GI B R T s E own now m (gap s.data.toList (s.data.toList.length+1) kx) wr)):=fun kx m wr L=>aaU B R T s E own now kx m wr L.rd L.tr (G.bel L.be) hR L.le hs
 have CN:Hd (∀kx m wr,Lk B R T s own now i up ns w kx m wr->Calls prog 104 #[.pointer (some ⟨R,0,none⟩)] wr fun e w'=>e=.returned (.int .i64 (nx s.data.toList kx))/\wr.grownBy w' none):=fun kx m wr L=>mV R s kx T wr L.rd L.le (by omega)
 have CT:Hd (∀kx m wr,Lk B R T s own now i up ns w kx m wr->Calls prog 109 #[.pointer (some ⟨R,0,none⟩),.int .i64 93] wr (zD B R T s E own now m (must s.data.toList kx 93) wr)):=fun kx m wr L=>Tm B R T s E own now kx 93 (by decide) m wr L.rd L.tr (G.bel L.be) hR L.le hs
 have CV:Hd (∀f kx m wr,f<F->2*(s.size-kx)+1<=f->Lk B R T s own now i up ns w kx m wr->Calls prog 154 #[.pointer (some ⟨R,0,none⟩),.int .i64 (up:Nat),.agg #[.string ⟨#[]⟩,.int .i64 (kx:Nat)],.int .i64 (d:Nat)] wr (qX B R T s E own now (val s.data.toList f kx up [] kx d m) wr)):=fun f kx m wr hf hkf L=>IH f hf B R T s E own now kx up [] kx d m wr L.rd L.tr (G.bel L.be) hR L.le hs L.wf L.wt L.ul (by rw[L.kd];decide) (fun e=>by rw[L.kd]at e;exact absurd e (by decide)) (by simp) hd (by have:=L.nn;have:=L.le;omega) hkf
 have HVO:Hd (∀f kx m j1 m1,kx<=s.size->WF m own->WT m->up<m.length->ak m up=1->val s.data.toList f kx up [] kx d m=.ok (j1,m1)->Ad m m1 own kx j1 s.size):=fun f kx m j1 m1 a1 a2 a3 a4 a5 a6=>by
  have:=(GG s.data.toList own f).1 kx up [] kx d m j1 m1 (by omega) a2 a3 a4 (by rw[a5];decide) a6;rw[hl]at this;exact this
 have nS:Hd (∀kx j,kx<=s.size->gap s.data.toList (s.data.toList.length+1) kx=.ok j->kx<=j/\j<=s.size):=fun kx j a b=>by
  have:=wH s.data.toList _ kx j (by omega) b;omega
 have iE:Hd (∀kx,nx s.data.toList kx=44->kx<s.size):=fun kx a=>by
  have:=bH (l:=s.data.toList) (i:=kx) (by rw[a];decide);omega
 have HST:Hd (∀f kx m,lst s.data.toList (f+1) kx up d m=_):=fun f kx m=>aaV s.data.toList f kx up d m
 obtain⟨S,hS⟩:=zN (lst s.data.toList F (i+1) up d ns);have HS:Hd (lst s.data.toList F (i+1) up d ns=S):=hS;rw[hS];obtain⟨-,r1,-,rf⟩:=h.cells;have rf1:=rf 1;have hset:Rd (w.setCell ⟨R,1,none⟩ (.int .i64 ((i:Int)+1))) R s (i+1) T:=h.set (i+1);have GK:Hd (Lk B R T s own now i up ns w (i+1) ns (w.setCell ⟨R,1,none⟩ (.int .i64 ((i:Int)+1)))):=⟨hset,htr.keepR h (iM w R 1 _),W,V,hu,h1,by omega,by omega,wI (Below.refl _ _) hR 1 _⟩;clear h htr G W V hu h1 hS rf hset IH;go_enter func199,ntmps199;go_wp2;go_loopw [] (fun wr=>∃(kx f:Nat) (m:List Tn),Lk B R T s own now i up ns w kx m wr/\2*(s.size-kx)+2<=f/\f<=F/\lst s.data.toList f kx up d m=S) (fun wr=>s.size-(match wr.cell? ⟨R,1,none⟩ with|some (.int _ k)=>k.toNat|_=>0))
 case atStart=>exact⟨i+1,F,ns,GK.o,by omega,Nat.le_refl _,HS.o⟩
 case round =>
  obtain⟨kx,f,m,hL,hf,hfF,LM⟩:=hrel;obtain⟨f,rfl⟩:∃f',f=f'+1:=⟨f-1,by omega⟩;rw[HST.o]at LM;have GL:Hd (_=S):=LM;have HL:Hd (Lk B R T s own now i up ns w kx m wr):=hL;have C1:=CG.o kx m wr hL;have gK:Hd ((match wr.cell? ⟨R,1,none⟩ with|some (.int _ k)=>k.toNat|_=>0)=kx):=by show _=_;rw[hL.rd.cells.2.1];simp
  have ay:=nS.o kx;obtain⟨g0,hg0⟩:=zN (gap s.data.toList (s.data.toList.length+1) kx);rw[hg0]at C1 GL ay;have yj:Hd (Calls prog 219 #[.pointer (some ⟨R,0,none⟩)] wr (GI B R T s E own now m g0 wr)):=C1;have zF:Hd (∀j,kx<=s.size->g0=.ok j->kx<=j/\j<=s.size):=ay;clear hL LM C1 ay hg0;go_wp2_with (go_at_call 219;refine yj.o.mono ?_);rintro e w2 ⟨p1,p2,p3⟩
  cases g0 with
  | error ec =>
   obtain⟨ec1,ec2⟩:=ec;obtain⟨Fb,rfl,nT⟩:=p2 ec1 ec2 rfl;have dP:Hd (aV w2 (.iface 130 (.pointer (some ⟨Fb,0,none⟩))) E ec1 ec2):=nT;have az:Hd (S=.error (ec1,ec2)):=GL.o.symm;have dQ:Hd (Below B w w2):=HL.o.be.trans p3;clear p1 p2 p3 nT;go_wp2;refine bodyPost_ret (results_tmp (t:=6) rfl _ _ _) rfl ?_;rw[az.o];exact⟨fun j ns hh=>(by cases hh),fun c p hh=>(by cases hh;exact⟨_,rfl,dP.o⟩),dQ.o⟩
  | ok j0 =>
   obtain⟨rfl,hr2,ht2⟩:=p1 j0 rfl;obtain⟨gj1,gj2⟩:=zF.o j0 HL.o.le rfl;have HL2:Hd (Lk B R T s own now i up ns w j0 m w2):=HL.o.to hr2 ht2 p3 gj1 gj2;have C2:Hd (Calls prog 104 #[.pointer (some ⟨R,0,none⟩)] w2 fun e w'=>e=.returned (.int .i64 (nx s.data.toList j0))/\w2.grownBy w' none):=CN.o j0 m w2 HL2.o;have zG:=GL.o;simp only[]at zG;have qY:=CT.o j0 m;have LP:=CV.o f j0 m;have LQ:=HVO.o f j0 m;obtain⟨V0,hV0⟩:=zN (val s.data.toList f j0 up [] j0 d m);obtain⟨MU,lN⟩:=zN (must s.data.toList j0 93);rw[lN]at zG qY;rw[hV0]at zG LP LQ;obtain⟨x,hx⟩:=zN (nx s.data.toList j0);rw[hx]at C2 zG;have uu:Hd (_=S):=zG;have uy:Hd (∀wr,Lk B R T s own now i up ns w j0 m wr->Calls prog 109 #[.pointer (some ⟨R,0,none⟩),.int .i64 93] wr (zD B R T s E own now m MU wr)):=qY;have CV3:Hd (∀wr,Lk B R T s own now i up ns w j0 m wr->Calls prog 154 #[.pointer (some ⟨R,0,none⟩),.int .i64 (up:Nat),.agg #[.string ⟨#[]⟩,.int .i64 (j0:Nat)],.int .i64 (d:Nat)] wr (qX B R T s E own now V0 wr)):=fun wr L=>LP wr (by omega) (by omega) L
   have aaY:Hd (∀j1 m1,V0=.ok (j1,m1)->Ad m m1 own j0 j1 s.size):=fun j1 m1 e=>LQ j1 m1 gj2 HL2.o.wf HL2.o.wt HL2.o.ul HL2.o.kd e
   clear p1 p2 p3 hr2 ht2 GL zG qY LP LQ hV0 lN hx zF;go_wp2_with (go_at_call 104;refine C2.o.mono ?_);rintro e w3 ⟨rfl,hg3⟩;have yl:Hd (Lk B R T s own now i up ns w j0 m w3):=HL2.o.gb hg3;clear hg3
   by_cases c93:x=93
   ·have e93:(x == 93)=true:=by simp[c93]
    have Cf:Hd ((match (generalizing:=false) MU with | .error e=>.error e | .ok q=>.ok (q,m))=S):=by
     have:=uu.o;rw[if_pos c93]at this;exact this
    clear c93;go_wp2_with (go_at_call 109;refine(uy.o _ yl.o).mono ?_);rintro e w4 ⟨q1,q2,q3⟩
    cases MU with
    | error ec =>
     obtain⟨ec1,ec2⟩:=ec;obtain⟨Fb,rfl,nT⟩:=q2 ec1 ec2 rfl;have dP:Hd (aV w4 (.iface 130 (.pointer (some ⟨Fb,0,none⟩))) E ec1 ec2):=nT;have az:Hd (S=.error (ec1,ec2)):=Cf.o.symm;have dQ:Hd (Below B w w4):=yl.o.be.trans q3;clear q1 q2 q3 nT;go_wp2;refine bodyPost_ret (results_tmp (t:=6) rfl _ _ _) rfl ?_;rw[az.o];exact⟨fun j ns hh=>(by cases hh),fun c p hh=>(by cases hh;exact⟨_,rfl,dP.o⟩),dQ.o⟩
    | ok jq =>
     obtain⟨rfl,hrq,Ci⟩:=q1 jq rfl;have LU:Hd (Rd w4 R s jq T):=hrq;have LW:Hd (Tr w4 B T m own now):=Ci;have az:Hd (S=.ok (jq,m)):=Cf.o.symm;have dQ:Hd (Below B w w4):=yl.o.be.trans q3;clear q1 q2 q3 hrq Ci;go_wp2;refine bodyPost_ret (results_tmp (t:=6) rfl _ _ _) rfl ?_;rw[az.o];exact⟨fun j ns hh=>(by cases hh;exact⟨rfl,LU.o,LW.o⟩),fun c p hh=>(by cases hh),dQ.o⟩
   ·have e93:(x == 93)=false:=by simp[c93]
    have LX:=uu.o;rw[if_neg c93]at LX;have LY:Hd (_=S):=LX;clear LX;obtain⟨-,r1c,-,-⟩:=yl.o.rd.cells;clear c93 uu;go_wp2_with (go_at_call 154;refine(CV3.o _ yl.o).mono ?_);intro e w4 hq
    cases V0 with
    | error ec =>
     obtain⟨ec1,ec2⟩:=ec;obtain⟨Fb,rfl,nT⟩:=aaW hq;have dP:Hd (aV w4 (.iface 130 (.pointer (some ⟨Fb,0,none⟩))) E ec1 ec2):=nT;have az:Hd (S=.error (ec1,ec2)):=LY.o.symm;have dQ:Hd (Below B w w4):=yl.o.be.trans hq.2.2;clear hq nT r1c;go_wp2;refine bodyPost_ret (results_tmp (t:=6) rfl _ _ _) rfl ?_;rw[az.o];exact⟨fun j ns hh=>(by cases hh),fun c p hh=>(by cases hh;exact⟨_,rfl,dP.o⟩),dQ.o⟩
    | ok jm =>
     obtain⟨j1,m1⟩:=jm;obtain⟨rfl,hr4,pU⟩:=hq.1 j1 m1 rfl;have A:=aaY.o j1 m1 rfl;have hA1:=A.fw;have hA2:=A.en;have GM:Hd (Lk B R T s own now i up ns w j1 m1 w4):=yl.o.ad A hr4 pU hq.2.2;have C5:=CG.o j1 m1 w4 GM.o;have iy:=nS.o j1;have GN:=LY.o;simp only[]at GN;obtain⟨g1,hg1⟩:=zN (gap s.data.toList (s.data.toList.length+1) j1);rw[hg1]at C5 iy GN;have LZ:Hd (Calls prog 219 #[.pointer (some ⟨R,0,none⟩)] w4 (GI B R T s E own now m1 g1 w4)):=C5;have Tq:Hd (∀j,j1<=s.size->g1=.ok j->j1<=j/\j<=s.size):=iy;have L8:Hd (_=S):=GN;clear C5 iy GN hg1 hq hr4 pU A r1c LY;go_wp2_with (go_at_call 219;refine LZ.o.mono ?_);rintro e w5 ⟨p1,p2,p3⟩
     cases g1 with
     | error ec =>
      obtain⟨ec1,ec2⟩:=ec;obtain⟨Fb,rfl,nT⟩:=p2 ec1 ec2 rfl;have dP:Hd (aV w5 (.iface 130 (.pointer (some ⟨Fb,0,none⟩))) E ec1 ec2):=nT;have az:Hd (S=.error (ec1,ec2)):=L8.o.symm;have dQ:Hd (Below B w w5):=GM.o.be.trans p3;clear p1 p2 p3 nT;go_wp2;refine bodyPost_ret (results_tmp (t:=6) rfl _ _ _) rfl ?_;rw[az.o];exact⟨fun j ns hh=>(by cases hh),fun c p hh=>(by cases hh;exact⟨_,rfl,dP.o⟩),dQ.o⟩
     | ok j2 =>
      obtain⟨rfl,pO,wJ⟩:=p1 j2 rfl;obtain⟨hj1,hj2⟩:=Tq.o j2 GM.o.le rfl;have Tt:Hd (Lk B R T s own now i up ns w j2 m1 w5):=GM.o.to pO wJ p3 hj1 hj2;have C6:Hd (Calls prog 104 #[.pointer (some ⟨R,0,none⟩)] w5 fun e w'=>e=.returned (.int .i64 (nx s.data.toList j2))/\w5.grownBy w' none):=CN.o j2 m1 w5 Tt.o;have Cj:=L8.o;simp only[]at Cj;have L9:=CT.o j2 m1;have Tu:Hd (nx s.data.toList j2=44->j2<s.size):=iE.o j2;obtain⟨MU,lN⟩:=zN (must s.data.toList j2 93);rw[lN]at Cj L9;obtain⟨y,hy⟩:=zN (nx s.data.toList j2);rw[hy]at C6 Cj Tu;have Tz:Hd (_=S):=Cj;have aaZ:Hd (∀wr,Lk B R T s own now i up ns w j2 m1 wr->Calls prog 109 #[.pointer (some ⟨R,0,none⟩),.int .i64 93] wr (zD B R T s E own now m1 MU wr)):=L9;clear p1 p2 p3 pO wJ Cj L9 lN hy L8 Tq;go_wp2_with (go_at_call 104;refine C6.o.mono ?_)
      rintro e w6 ⟨rfl,dK⟩;have wK:Hd (Lk B R T s own now i up ns w j2 m1 w6):=Tt.o.gb dK;clear dK
      by_cases c44:y=44
      ·have e44:(y != 44)=false:=by simp[c44]
       have hjl:=Tu.o c44;have aa0:Hd (lst s.data.toList f (j2+1) up d m1=S):=by
        have:=Tz.o;rw[if_pos c44]at this;exact this
       obtain⟨-,r16,-,rf6⟩:=wK.o.rd.cells;have rf61:=rf6 1;have TA:Hd (Rd (w6.setCell ⟨R,1,none⟩ (.int .i64 ((j2:Int)+1))) R s (j2+1) T):=wK.o.rd.set (j2+1);have aa1:Hd (Lk B R T s own now i up ns w (j2+1) m1 (w6.setCell ⟨R,1,none⟩ (.int .i64 ((j2:Int)+1)))):=wK.o.to TA.o (wK.o.tr.keepR wK.o.rd (iM w6 R 1 _)) (wI (Below.refl _ _) hR 1 _) (by omega) (by omega);clear c44 rf6;go_wp2;refine⟨⟨j2+1,f,m1,aa1.o,by omega,by omega,aa0.o⟩,?_⟩;rw[gK.o,TA.o.cells.2.1];simp;omega
      ·have e44:(y != 44)=true:=by simp[c44]
       have Cf:Hd ((match (generalizing:=false) MU with | .error e=>.error e | .ok q=>.ok (q,m1))=S):=by
        have:=Tz.o;rw[if_neg c44]at this;exact this
       clear c44;go_wp2_with (go_at_call 109;refine(aaZ.o _ wK.o).mono ?_);rintro e w7 ⟨q1,q2,q3⟩
       cases MU with
       | error ec =>
        obtain⟨ec1,ec2⟩:=ec;obtain⟨Fb,rfl,nT⟩:=q2 ec1 ec2 rfl;have dP:Hd (aV w7 (.iface 130 (.pointer (some ⟨Fb,0,none⟩))) E ec1 ec2):=nT;have az:Hd (S=.error (ec1,ec2)):=Cf.o.symm;have dQ:Hd (Below B w w7):=wK.o.be.trans q3;clear q1 q2 q3 nT;go_wp2;refine bodyPost_ret (results_tmp (t:=6) rfl _ _ _) rfl ?_;rw[az.o];exact⟨fun j ns hh=>(by cases hh),fun c p hh=>(by cases hh;exact⟨_,rfl,dP.o⟩),dQ.o⟩
       | ok jq =>
        obtain⟨rfl,hrq,Ci⟩:=q1 jq rfl;have LU:Hd (Rd w7 R s jq T):=hrq;have LW:Hd (Tr w7 B T m1 own now):=Ci;have az:Hd (S=.ok (jq,m1)):=Cf.o.symm;have dQ:Hd (Below B w w7):=wK.o.be.trans q3;clear q1 q2 q3 hrq Ci;go_wp2;refine bodyPost_ret (results_tmp (t:=6) rfl _ _ _) rfl ?_;rw[az.o];exact⟨fun j ns hh=>(by cases hh;exact⟨rfl,LU.o,LW.o⟩),fun c p hh=>(by cases hh),dQ.o⟩
end Go.Proofs.YtnnbgjaphfhibaaGreatDoor
