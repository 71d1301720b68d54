import Derived.Test.YtnnbgjaphfhibaaGreatDoorN01
import Derived.Test.YtnnbgjaphfhibaaGreatDoorN02
set_option linter.unusedVariables false
set_option linter.unusedSimpArgs false
set_option maxRecDepth 100000
set_option maxHeartbeats 6400000
open Go.Proofs.Tryz
namespace Go.Proofs.YtnnbgjaphfhibaaGreatDoor
open Go.RowKit Go.Joins
theorem Aa(l:List UInt8)(i:Nat)(hi:i<=l.length):i<=(bi l i).2/\(bi l i).2<=l.length:=by
 have:=oQ dm l i hi;unfold bi
 repeat' split
 all_goals (simp only[];omega)
theorem jA(l:List UInt8)(i:Nat)(hi:i<=l.length):i<=bl l i/\bl l i<=l.length:=oQ fC l i hi
theorem tH(l:List UInt8)(f i:Nat):gap l (f+1) i=if(bi l (bl l i)).1=false then .error (2,(bi l (bl l i)).2) else if nx l (bi l (bl l i)).2=10 then gap l f ((bi l (bl l i)).2+1) else .ok (bi l (bl l i)).2:=rfl
theorem dH{w w1 w2:World}{r:Option Nat}(h:w.grownBy w1 r)(hg:w1.grownBy w2 r):w.grownBy w2 r :=
 ⟨hg.os.trans h.os,hg.tape.trans h.tape,hg.output.trans h.output,Nat.le_trans h.size hg.size,fun k hk hn=>(hg.block k (Nat.lt_of_lt_of_le hk h.size) hn).trans (h.block k hk hn)⟩
def Xo(R:Nat)(s:ByteArray)(T:Nat)(ty:TypeId)(pv:Value)(g:Rs Nat)(w:World)(e:Ending)(w':World):Prop:=(∀j,g=.ok j->e=.returned .nilIface/\Rd w' R s j T)/\(∀c p,g=.error (c,p)->∃v,e=.returned v/\FaultV w' v p ty pv)/\w.grownBy w' (some R)
theorem Xp(R:Nat)(s:ByteArray)(i T:Nat)(ty:TypeId)(pv:Value)(w:World)(h:Rd w R s i T)(hi:i<=s.size)(hs:s.size<=1048576)(he:Ew w ty pv)(hR:¬R=6) :
  Calls prog 219 #[.pointer (some ⟨R,0,none⟩)] w (Xo R s T ty pv (gap s.data.toList (s.data.toList.length+1) i) w):=by
 have CN:Hd (∀k w,Rd w R s k T->k<=s.size->Calls prog 104 #[.pointer (some ⟨R,0,none⟩)] w fun e w'=>e=.returned (.int .i64 (nx s.data.toList k))/\w.grownBy w' none):=fun k w h1 h2=>l7 R s k T w h1 h2 hs
 have CS:Hd (∀k w,Rd w R s k T->k<=s.size->Calls prog 103 #[.pointer (some ⟨R,0,none⟩)] w fun e w'=>e=.returned (.tuple #[])/\Rd w' R s (bl s.data.toList k) T/\w.grownBy w' (some R)):=fun k w h1 h2=>Eu R s k T w h1 h2 hs
 have CC:Hd (∀k w',Rd w' R s k T->k<=s.size->w.grownBy w' (some R)->Calls prog 108 #[.pointer (some ⟨R,0,none⟩)] w' (zX R s T ty pv (bi s.data.toList k) w')):=fun k w' h1 h2 hg=>Ph R s k T ty pv w' h1 h2 hs (hg.cell he (by simp;exact fun e=>hR e.symm)) hR
 have hl:s.data.toList.length=s.size:=by simp
 have fP:Hd (∀k,k<=s.size->k<=bl s.data.toList k/\bl s.data.toList k<=s.size):=fun k hk=>by rw[<-hl];exact jA _ k (by omega)
 have Xq:Hd (∀k,k<=s.size->k<=(bi s.data.toList k).2/\(bi s.data.toList k).2<=s.size):=fun k hk=>by rw[<-hl];exact Aa _ k (by omega)
 have eP:Hd (∀f k,gap s.data.toList (f+1) k=if(bi s.data.toList (bl s.data.toList k)).1=false then .error (2,(bi s.data.toList (bl s.data.toList k)).2) else if nx s.data.toList (bi s.data.toList (bl s.data.toList k)).2=10 then gap s.data.toList f ((bi s.data.toList (bl s.data.toList k)).2+1) else .ok (bi s.data.toList (bl s.data.toList k)).2):=fun f k=>tH _ f k
 have cZ:Hd (∀k,k<=s.size->nx s.data.toList k=10->k<s.size):=fun k hk hn=>by
  apply Classical.byContradiction;intro hh;rw[ji _ _ (by omega)]at hn;exact absurd hn (by decide)
 have dG:Hd (Rd w R s i T):=h;obtain⟨G,hG⟩:=zN (gap s.data.toList (s.data.toList.length+1) i);have iV:Hd (gap s.data.toList (s.data.toList.length+1) i=G):=hG;rw[hG];clear h he hG;go_enter func219,ntmps219;go_wp2;go_loopw [] (fun wr=>∃k f:Nat,Rd wr R s k T/\k<=s.size/\s.size-k<f/\gap s.data.toList f k=G/\w.grownBy wr (some R)) (fun wr=>s.size-(match wr.cell? ⟨R,1,none⟩ with|some (.int _ k)=>k.toNat|_=>0))
 case atStart=>exact⟨i,s.data.toList.length+1,dG.o,hi,by omega,iV.o,ak _ _⟩
 case round =>
  obtain⟨k,f,hrd,hk,hf,ni,hg⟩:=hrel;obtain⟨f,rfl⟩:∃f',f=f'+1:=⟨f-1,by omega⟩;have kJ:Hd (Rd wr R s k T):=hrd;have jI:Hd (w.grownBy wr (some R)):=hg;have gI:Hd ((match wr.cell? ⟨R,1,none⟩ with|some (.int _ k)=>k.toNat|_=>0)=k):=by show _=_;rw[hrd.cells.2.1];simp
  have C1:Hd (Calls prog 103 #[.pointer (some ⟨R,0,none⟩)] wr fun e w'=>e=.returned (.tuple #[])/\Rd w' R s (bl s.data.toList k) T/\wr.grownBy w' (some R)):=CS.o k wr hrd hk;rw[eP.o]at ni;obtain⟨hb1,hb2⟩:=fP.o k hk;have hc12:=Xq.o (bl s.data.toList k) hb2;have C2:Hd (∀w',Rd w' R s (bl s.data.toList k) T->w.grownBy w' (some R)->Calls prog 108 #[.pointer (some ⟨R,0,none⟩)] w' (zX R s T ty pv (bi s.data.toList (bl s.data.toList k)) w')):=fun w' h1 h2=>CC.o _ w' h1 hb2 h2
  obtain⟨j,hj⟩:=zN (bl s.data.toList k);rw[hj]at C1 C2 ni hb1 hb2 hc12;obtain⟨q,hq⟩:=zN (bi s.data.toList j);rw[hq]at C2 ni hc12;obtain⟨ok,m⟩:=q;obtain⟨hm1,hm2⟩:=hc12;simp only[]at hm1 hm2 ni;have ED:Hd ((if ok=false then Except.error (2,m) else if nx s.data.toList m=10 then gap s.data.toList f (m+1) else Except.ok m)=G):=ni;have C3:Hd (∀w',Rd w' R s m T->Calls prog 104 #[.pointer (some ⟨R,0,none⟩)] w' fun e w''=>e=.returned (.int .i64 (nx s.data.toList m))/\w'.grownBy w'' none):=fun w' h1=>CN.o m w' h1 hm2
  have HL2:Hd (nx s.data.toList m=10->m<s.size):=cZ.o m hm2;obtain⟨x,hx⟩:=zN (nx s.data.toList m);rw[hx]at C3 ED HL2;clear hrd hg ni hj hq hx;go_wp2_with (go_at_call 103;refine C1.o.mono ?_);rintro e w1 ⟨rfl,hr1,hg1⟩;have HR1:Hd (Rd w1 R s j T):=hr1;have ay:Hd (w.grownBy w1 (some R)):=dH jI.o hg1;clear hr1 hg1;go_wp2_with (go_at_call 108;refine(C2.o _ HR1.o ay.o).mono ?_);rintro e w2 ⟨h1,h2,h3,h4⟩;have HR2:Hd (Rd w2 R s m T):=h3;have HG2:Hd (w.grownBy w2 (some R)):=dH ay.o h4;clear h3 h4
  cases ok with
  | false =>
   obtain⟨v,rfl,F,rfl,hF⟩:=h2 rfl;have gu:Hd (Except.error (2,m)=G):=by
    have:=ED.o;rw[if_pos (by trivial)]at this;exact this
   have dS:Hd (FaultV w2 (.iface 130 (.pointer (some ⟨F,0,none⟩))) m ty pv):=⟨F,rfl,hF⟩;clear h1 h2 hF;go_wp2;refine bodyPost_ret (results_tmp (t:=2) rfl _ _ _) rfl ?_;refine⟨fun j hj=>?_,fun c p hp=>?_,HG2.o⟩
   ·rw[<-gu.o]at hj;cases hj
   ·rw[<-gu.o]at hp
    cases hp
    exact⟨_,rfl,dS.o⟩
  | true =>
   obtain rfl:=h1 rfl;clear h1 h2;go_wp2_with (go_at_call 104;refine(C3.o _ HR2.o).mono ?_);rintro e w3 ⟨rfl,hg3⟩;have HR3:Hd (Rd w3 R s m T):=HR2.o.grow hg3;have aO:Hd (w.grownBy w3 (some R)):=aF HG2.o hg3;clear hg3
   by_cases h10:x=10
   ·have hb:(x != 10)=false:=by simp[h10]
    have hml:=HL2.o h10;have IU:Hd (gap s.data.toList f (m+1)=G):=by
     have:=ED.o;rw[if_neg (by simp),if_pos h10]at this;exact this
    obtain⟨-,d1,-,df⟩:=HR3.o.cells;have df1:=df 1;have zZ:Hd (Rd (w3.setCell ⟨R,1,none⟩ (.int .i64 ((m:Int)+1))) R s (m+1) T):=HR3.o.set (m+1);clear df h10;go_wp2;refine⟨⟨m+1,f,zZ.o,by omega,by omega,IU.o,aV aO.o 1 _⟩,?_⟩;rw[gI.o,zZ.o.cells.2.1];simp;omega
   ·have hb:(x != 10)=true:=by simp[h10]
    have gu:Hd (Except.ok m=G):=by
     have:=ED.o;rw[if_neg (by simp),if_neg h10]at this;exact this
    clear h10;go_wp2;refine bodyPost_ret (results_tmp (t:=2) rfl _ _ _) rfl ?_;refine⟨fun j hj=>?_,fun c p hp=>?_,aO.o⟩
    ·rw[<-gu.o]at hj
     cases hj
     exact⟨rfl,HR3.o⟩
    ·rw[<-gu.o]at hp;cases hp
open Go.RowKit Go.Joins
structure Es(w:World)(E:Int->TypeId × Value):Prop where
 te:w.cell? ⟨6,0,none⟩=some (.iface (E 2).1 (E 2).2)
 ra:w.cell? ⟨1,0,none⟩=some (.iface (E 3).1 (E 3).2)
 ma:w.cell? ⟨2,0,none⟩=some (.iface (E 4).1 (E 4).2)
 tw:w.cell? ⟨3,0,none⟩=some (.iface (E 5).1 (E 5).2)
structure Far(R:Nat):Prop where
 te:¬R=6
 ra:¬R=1
 ma:¬R=2
 tw:¬R=3
theorem Es.grow{w w':World}{E:Int->TypeId × Value}{R:Nat}(h:Es w E)(hR:Far R)(hg:w.grownBy w' (some R)):Es w' E :=
 ⟨hg.cell h.te (by simp;exact fun e=>hR.te e.symm),hg.cell h.ra (by simp;exact fun e=>hR.ra e.symm),hg.cell h.ma (by simp;exact fun e=>hR.ma e.symm),hg.cell h.tw (by simp;exact fun e=>hR.tw e.symm)⟩
def aS(w:World)(v:Value)(E:Int->TypeId × Value)(c:Int)(p:Nat):Prop:=FaultV w v p (E c).1 (E c).2
def Ac(R:Nat)(s:ByteArray)(T:Nat)(E:Int->TypeId × Value)(g:Rs (Int × Nat))(w:World)(e:Ending)(w':World):Prop:=(∀n j,g=.ok (n,j)->e=.returned (.tuple #[.int .i64 n,.nilIface])/\Rd w' R s j T)/\(∀c p,g=.error (c,p)->∃v,e=.returned (.tuple #[.int .i64 0,v])/\aS w' v E c p/\∃j,Rd w' R s j T)/\w.grownBy w' (some R)
theorem EF(l:List UInt8)(i:Nat):kH l i=if ag l i (toR aZ l i-i)=[116,114,117,101] then .ok (1,toR aZ l i) else if ag l i (toR aZ l i-i)=[102,97,108,115,101] then .ok (0,toR aZ l i) else .error (2,i):=rfl
theorem Xr(R:Nat)(s:ByteArray)(i T:Nat)(E:Int->TypeId × Value)(w:World)(h:Rd w R s i T)(hi:i<=s.size)(hs:s.size<=1048576)(he:Es w E)(hR:Far R) :
  Calls prog 198 #[.pointer (some ⟨R,0,none⟩)] w (Ac R s T E (kH s.data.toList i) w):=by
 have CN:Hd (∀k w,Rd w R s k T->k<=s.size->Calls prog 104 #[.pointer (some ⟨R,0,none⟩)] w fun e w'=>e=.returned (.int .i64 (nx s.data.toList k))/\w.grownBy w' none):=fun k w h1 h2=>l7 R s k T w h1 h2 hs
 have CB:Hd (∀c w,Calls prog 150 #[.int .i64 c] w fun e w'=>e=.returned (.bool (aZ c))/\w'=w):=O8;have CW:Hd (∀w,Calls prog 195 #[.iface (E 2).1 (E 2).2,.int .i64 (i:Nat)] w fun e w'=>(∃v,e=.returned v/\FaultV w' v i (E 2).1 (E 2).2)/\w.grownBy w' none):=fun w=>rE i _ _ w
 have lH:Hd (∀w',w.grownBy w' (some R)->w'.cell? ⟨6,0,none⟩=some (.iface (E 2).1 (E 2).2)):=fun w' hg=>(he.grow hR hg).te
 have dN:Hd (∀w' v,FaultV w' v i (E 2).1 (E 2).2->aS w' v E 2 i):=fun _ _ h=>h
 obtain⟨ty,hty⟩:=zN ((E 2).1);obtain⟨pv,hpv⟩:=zN ((E 2).2);rw[hty,hpv]at CW lH dN;have hl:s.data.toList.length=s.size:=by simp
 have HST:Hd (∀k,k<s.size->aZ (nx s.data.toList k)=true->toR aZ s.data.toList k=toR aZ s.data.toList (k+1)):=fun k hk hb=>ql aZ _ k (by omega) hb
 have jH:Hd (∀k,aZ (nx s.data.toList k)=false->toR aZ s.data.toList k=k):=fun k hb=>lG aZ _ k hb
 have cZ:Hd (∀k,k<=s.size->aZ (nx s.data.toList k)=true->k<s.size):=fun k hk hb=>by
  apply Classical.byContradiction;intro hn;rw[ji _ _ (by omega)]at hb;exact absurd hb (by decide)
 have jX:Hd (kH s.data.toList i=if ag s.data.toList i (toR aZ s.data.toList i-i)=[116,114,117,101] then .ok (1,toR aZ s.data.toList i) else if ag s.data.toList i (toR aZ s.data.toList i-i)=[102,97,108,115,101] then .ok (0,toR aZ s.data.toList i) else .error (2,i)):=EF _ i;have hij:=oQ aZ s.data.toList i (by omega);rw[hl]at hij;obtain⟨J,hJ⟩:=zN (toR aZ s.data.toList i);have HJ:Hd (toR aZ s.data.toList i=J):=hJ;obtain⟨G,hG⟩:=zN (kH s.data.toList i);rw[hJ]at jX hij;rw[hG]at jX ⊢;obtain⟨hij1,hij2⟩:=hij;have H0:Hd (Rd w R s i T):=h;obtain⟨X,hX⟩:∃X:ByteArray,X=⟨(ag s.data.toList i (J-i)).toArray⟩:=⟨_,rfl⟩;have s1:∀wx,(Instr.slice 9 (.string s) (some (.int .i64 (i:Int))) (some (.int .i64 (J:Int))) none).run prog wx=.ok (.string X) wx:=fun wx=>by rw[hX];exact kS s i J hij1 hij2 wx
 have tJ:Hd (X.toList=ag s.data.toList i (J-i)):=by show _=_;rw[hX,ByteArray.toList_eq]
 obtain⟨c0,c1,-,-⟩:=h.cells;clear h hJ hG hX hty hpv he;go_enter func198,ntmps198;go_wp2;go_loopw [] (fun wr=>∃k:Nat,Rd wr R s k T/\k<=s.size/\toR aZ s.data.toList k=J/\w.grownBy wr (some R)) (fun wr=>s.size-(match wr.cell? ⟨R,1,none⟩ with|some (.int _ k)=>k.toNat|_=>0))
 case atStart=>exact⟨i,H0.o,hi,HJ.o,ak _ _⟩
 case round =>
  obtain⟨k,hrd,hk,hbl,hg⟩:=hrel;have dG:Hd (Rd wr R s k T):=hrd;have fP:Hd (toR aZ s.data.toList k=J):=hbl;have HG:Hd (w.grownBy wr (some R)):=hg;have C1:Hd (Calls prog 104 #[.pointer (some ⟨R,0,none⟩)] wr fun e w'=>e=.returned (.int .i64 (nx s.data.toList k))/\wr.grownBy w' none):=CN.o k wr hrd hk;have hme:(match wr.cell? ⟨R,1,none⟩ with|some (.int _ k)=>k.toNat|_=>0)=k:=by rw[hrd.cells.2.1];simp
  have gI:Hd ((match wr.cell? ⟨R,1,none⟩ with|some (.int _ k)=>k.toNat|_=>0)=k):=hme;have eH:Hd (aZ (nx s.data.toList k)=true->toR aZ s.data.toList k=toR aZ s.data.toList (k+1)):=fun hb=>HST.o k (cZ.o k hk hb) hb
  have HS2:Hd (aZ (nx s.data.toList k)=false->toR aZ s.data.toList k=k):=jH.o k;have HL2:Hd (aZ (nx s.data.toList k)=true->k<s.size):=cZ.o k hk;obtain⟨c,hc⟩:=zN (nx s.data.toList k);rw[hc]at C1 eH HS2 HL2;have iU:Hd (∀w,Calls prog 150 #[.int .i64 c] w fun e w'=>e=.returned (.bool (aZ c))/\w'=w):=fun w=>CB.o c w
  obtain⟨b,hb⟩:=zN (aZ c);rw[hb]at iU eH HS2 HL2;clear hrd hbl hg hme hc hb c0 c1
  cases b with
  | false =>
   have xk:Hd (k=J):=(HS2.o (by trivial)).symm.trans fP.o;go_wp2_with (first|(go_at_call 104;refine C1.o.mono ?_;rintro e w2 ⟨rfl,hg2⟩)|(go_at_call 150;refine(iU.o _).mono ?_;rintro e w' ⟨rfl,rfl⟩));have HR2:Hd (Rd w' R s J T):=by rw[<-xk.o];exact dG.o.grow hg2
   have HG2:Hd (w.grownBy w' (some R)):=aF HG.o hg2;obtain⟨d0,d1,-,-⟩:=HR2.o.cells;have dte:=lH.o _ HG2.o;clear hg2;have IV:Hd (G=if X.toList=[116,114,117,101] then .ok (1,J) else if X.toList=[102,97,108,115,101] then .ok (0,J) else .error (2,i)):=by show _=_;rw[tJ.o];exact jX.o
   by_cases h1:X.toList=[116,114,117,101]
   ·have hb:(X.toList == [116,114,117,101])=true:=by simp[h1]
    have aB:Hd (G=.ok (1,J)):=by show G=_;rw[IV.o,if_pos h1]
    clear h1;go_quiet (fail);go_wp2;refine bodyPost_ret (results_tmp2 (t:=2) (u:=3) rfl _ _ _) rfl ?_;rw[aB.o];exact⟨fun n j hh=>(by cases hh;exact⟨rfl,HR2.o⟩),fun c p hh=>(by cases hh),au HG2.o _⟩
   ·have hb:(X.toList == [116,114,117,101])=false:=by simp[h1]
    by_cases h2:X.toList=[102,97,108,115,101]
    ·have hb2:(X.toList == [102,97,108,115,101])=true:=by simp[h2]
     have aB:Hd (G=.ok (0,J)):=by show G=_;rw[IV.o,if_neg h1,if_pos h2]
     clear h1 h2;go_quiet (fail);go_wp2;refine bodyPost_ret (results_tmp2 (t:=2) (u:=3) rfl _ _ _) rfl ?_;rw[aB.o];exact⟨fun n j hh=>(by cases hh;exact⟨rfl,HR2.o⟩),fun c p hh=>(by cases hh),au HG2.o _⟩
    ·have hb2:(X.toList == [102,97,108,115,101])=false:=by simp[h2]
     have aB:Hd (G=.error (2,i)):=by show G=_;rw[IV.o,if_neg h1,if_neg h2]
     clear h1 h2;go_quiet (fail);go_wp2_with (go_at_call 195;refine(CW.o _).mono ?_;rintro e w3 ⟨⟨v,rfl,hv⟩,hg3⟩);refine bodyPost_ret (results_tmp2 (t:=2) (u:=3) rfl _ _ _) rfl ?_;rw[aB.o];exact⟨fun n j hh=>(by cases hh),fun c p hh=>(by cases hh;exact⟨v,rfl,dN.o _ _ hv,J,Rd.grow (w:=World.drewN w' _) HR2.o hg3⟩),aF (au HG2.o _) hg3⟩
  | true =>
   have hkl:k<s.size:=HL2.o (by trivial);have HN:Hd (toR aZ s.data.toList (k+1)=J):=(eH.o (by trivial)).symm.trans fP.o;go_wp2_with (first|(go_at_call 104;refine C1.o.mono ?_;rintro e w2 ⟨rfl,hg2⟩;obtain⟨-,d1,-,df⟩:=(dG.o.grow hg2).cells;have df1:=df 1)|(go_at_call 150;refine(iU.o _).mono ?_;rintro e w' ⟨rfl,rfl⟩));have jW:Hd (Rd (w'.setCell ⟨R,1,none⟩ (.int .i64 ((k:Int)+1))) R s (k+1) T):=(dG.o.grow hg2).set (k+1);refine⟨⟨k+1,jW.o,by omega,HN.o,aV (aF HG.o hg2) 1 _⟩,?_⟩;rw[gI.o,jW.o.cells.2.1];simp;omega
open Go.RowKit Go.Joins
def Ae(n:Int):Bool:=decide (55296<=n/\n<=57343)
def ny(n:Nat):Bool:=Ae (n:Nat)
theorem Xt(n:Int)(h0:0<=n)(hn:n<65536)(w:World):Calls prog 238 #[.int .i32 n] w fun e w'=>e=.returned (.bool (!Ae n))/\w'=w:=by
 have HX:Hd (Ae n=decide (55296<=n/\n<=57343)):=rfl;obtain⟨y,hy⟩:=zN (Ae n);rw[hy]at HX ⊢;clear hy;go_enter func238,ntmps238;go_wp2
 all_goals go_ret
 all_goals (refine⟨bV ?_,rfl⟩;rw[HX.o];simp;try omega)
theorem Xu(n:Nat)(hn:n<65536)(w:World):Calls prog 238 #[.int .i32 (n:Nat)] w fun e w'=>e=.returned (.bool (!ny n))/\w'=w:=Xt (n:Nat) (by omega) (by omega) w
def IW(p:Nat):Rs (Nat × Nat)->Rs (Nat × Nat)
 | .error e=>.error e
 | .ok (n,j)=>if ny n=true then .error (2,p) else .ok (n,j)
def tK(l:List UInt8)(i p:Nat):Rs (Nat × Nat):=IW p (four l 4 i 0)
theorem Af(l:List UInt8)(k i n:Nat):four l (k+1) i n=if hexV (nx l i)<0 then .error (2,i) else four l k (i+1) (16*n+(hexV (nx l i)).toNat):=rfl
theorem Xv(c d:Nat)(hc:c<4096)(hd:d<16):bits BinOp.or IntKind.i32 ((c:Int)*16) (d:Int)=((16*c+d:Nat):Int):=by
 have e1:(c:Int)*16=((c*16:Nat):Int):=by simp
 have e2:c*16 ||| d=16*c+d:=by
  have:=Nat.shiftLeft_add_eq_or_of_lt (a:=c) (b:=d) (i:=4) (by omega);rw[Nat.shiftLeft_eq]at this;have e:(2:Nat) ^ 4=16:=rfl;rw[e]at this;omega
 have e3:(BitVec.ofInt 32 ((c:Int)*16) ||| BitVec.ofInt 32 (d:Int)).toNat=16*c+d:=by
  rw[e1,BitVec.ofInt_natCast,BitVec.ofInt_natCast,BitVec.toNat_or,BitVec.toNat_ofNat,BitVec.toNat_ofNat,Nat.mod_eq_of_lt (by omega),Nat.mod_eq_of_lt (by omega),e2]
 show IntKind.i32.wrap (((BitVec.ofInt 32 ((c:Int)*16) ||| BitVec.ofInt 32 (d:Int)).toNat:Nat):Int)=_;rw[e3];simp[IntKind.wrap,IntKind.bits,IntKind.signed];omega
theorem IX:hexV (-1)=-1:=by decide
def yD(R:Nat)(s:ByteArray)(T:Nat)(E:Int->TypeId × Value)(g:Rs (Nat × Nat))(w:World)(e:Ending)(w':World):Prop:=(∀n j,g=.ok (n,j)->e=.returned (.tuple #[.int .i32 (n:Nat),.nilIface])/\Rd w' R s j T)/\(∀c p,g=.error (c,p)->∃v,e=.returned (.tuple #[.int .i32 0,v])/\aS w' v E c p/\∃j,Rd w' R s j T)/\w.grownBy w' (some R)
theorem Xw(R:Nat)(s:ByteArray)(i T p:Nat)(E:Int->TypeId × Value)(w:World)(h:Rd w R s i T)(hi:i<=s.size)(hs:s.size<=1048576)(he:Es w E)(hR:Far R) :
  Calls prog 228 #[.pointer (some ⟨R,0,none⟩),.int .i64 (p:Nat)] w (yD R s T E (tK s.data.toList i p) w):=by
 have CN:Hd (∀k w,Rd w R s k T->k<=s.size->Calls prog 104 #[.pointer (some ⟨R,0,none⟩)] w fun e w'=>e=.returned (.int .i64 (nx s.data.toList k))/\w.grownBy w' none):=fun k w h1 h2=>l7 R s k T w h1 h2 hs
 have CX:Hd (∀c,-1<=c/\c<256->∀w,Calls prog 237 #[.int .i64 c] w fun e w'=>e=.returned (.int .i64 (hexV c))/\w'=w):=Xm;have CV:Hd (∀n:Nat,n<65536->∀w,Calls prog 238 #[.int .i32 (n:Nat)] w fun e w'=>e=.returned (.bool (!ny n))/\w'=w):=Xu;have CW:Hd (∀w,Calls prog 195 #[.iface (E 2).1 (E 2).2,.int .i64 (p:Nat)] w fun e w'=>(∃v,e=.returned v/\FaultV w' v p (E 2).1 (E 2).2)/\w.grownBy w' none):=fun w=>rE p _ _ w
 have lH:Hd (∀w',w.grownBy w' (some R)->w'.cell? ⟨6,0,none⟩=some (.iface (E 2).1 (E 2).2)):=fun w' hg=>(he.grow hR hg).te
 have dN:Hd (∀w' v q,FaultV w' v q (E 2).1 (E 2).2->aS w' v E 2 q):=fun _ _ _ h=>h
 obtain⟨ty,hty⟩:=zN ((E 2).1);obtain⟨pv,hpv⟩:=zN ((E 2).2);rw[hty,hpv]at CW lH dN;have CH:Hd (∀k w',w.grownBy w' (some R)->Rd w' R s k T->Calls prog 156 #[.pointer (some ⟨R,0,none⟩)] w' fun e w''=>(∃v,e=.returned v/\FaultV w'' v k ty pv)/\w'.grownBy w'' none):=fun k w' hg hr=>uS R s k T ty pv w' hr (lH.o w' hg)
 have hl:s.data.toList.length=s.size:=by simp
 have IY:Hd (∀k i n,four s.data.toList (k+1) i n=if hexV (nx s.data.toList i)<0 then .error (2,i) else four s.data.toList k (i+1) (16*n+(hexV (nx s.data.toList i)).toNat)):=Af _;have Ag:Hd (∀c,-1<=hexV c/\hexV c<16):=Ey;have IZ:Hd (∀i,-1<=nx s.data.toList i/\nx s.data.toList i<256):=Eo _;have cZ:Hd (∀k,k<=s.size->0<=hexV (nx s.data.toList k)->k<s.size):=fun k hk hb=>by
  apply Classical.byContradiction;intro hn;rw[ji _ _ (by omega),IX]at hb;omega
 obtain⟨F,hF⟩:=zN (four s.data.toList 4 i 0);have HF:Hd (four s.data.toList 4 i 0=F):=hF;obtain⟨G,hG⟩:=zN (tK s.data.toList i p);have Pj:Hd (G=IW p F):=by show _=_;rw[<-hG,<-hF];rfl
 rw[hG];have H0:Hd (Rd w R s i T):=h;clear h hF hG hty hpv he;go_enter func228,ntmps228;go_wp2;go_loopw [6,8] (fun vc vk wr=>∃k c j:Nat,vc=.int .i32 (c:Nat)/\vk=.int .i64 (k:Nat)/\k<=4/\c<16 ^ k/\four s.data.toList (4-k) j c=F/\Rd wr R s j T/\j<=s.size/\w.grownBy wr (some R)) (fun _ vk _=>4-(intOf vk).toNat)
 case atStart=>exact⟨0,0,i,rfl,rfl,by omega,by omega,HF.o,H0.o,hi,ak _ _⟩
 case round =>
  obtain⟨k,c,j,rfl,rfl,hk,hc,hf,hrd,hj,hg⟩:=hrel;have dG:Hd (Rd _ R s j T):=hrd;have HG:Hd (w.grownBy _ (some R)):=hg
  by_cases hk4:k=4
  ·subst hk4;have hc4:c<65536:=by omega
   have jY:Hd (F=.ok (c,j)):=hf.symm;have aB:Hd (G=if ny c=true then .error (2,p) else .ok (c,j)):=by
    show _=_;rw[Pj.o,jY.o];rfl
   have yE:Hd (∀w,Calls prog 238 #[.int .i32 (c:Nat)] w fun e w'=>e=.returned (.bool (!ny c))/\w'=w):=CV.o c hc4;have dte:=lH.o _ hg;obtain⟨b,hb⟩:=zN (ny c);rw[hb]at yE aB;clear hb hrd hg hf hc hk
   cases b with
   | true =>
    go_wp2_with (first|(go_at_call 238;refine(yE.o _).mono ?_;rintro e w' ⟨rfl,rfl⟩)|(go_at_call 195;refine(CW.o _).mono ?_;rintro e w3 ⟨⟨v,rfl,hv⟩,hg3⟩));refine bodyPost_ret (results_tmp2 (t:=4) (u:=5) rfl _ _ _) rfl ?_;rw[aB.o];exact⟨fun n j hh=>(by cases hh),fun c p hh=>(by cases hh;exact⟨v,rfl,dN.o _ _ _ hv,_,dG.o.grow hg3⟩),aF HG.o hg3⟩
   | false =>
    go_wp2_with (go_at_call 238;refine(yE.o _).mono ?_;rintro e w' ⟨rfl,rfl⟩);refine bodyPost_ret (results_tmp2 (t:=4) (u:=5) rfl _ _ _) rfl ?_;rw[aB.o];exact⟨fun n j hh=>(by cases hh;exact⟨rfl,dG.o⟩),fun c p hh=>(by cases hh),HG.o⟩
  ·have hk3:k<4:=by omega
   obtain⟨m,hm⟩:∃m,4-k=m+1:=⟨3-k,by omega⟩;have hm2:4-(k+1)=m:=by omega
   rw[hm,IY.o]at hf;have C1:Hd (Calls prog 104 #[.pointer (some ⟨R,0,none⟩)] _ fun e w'=>e=.returned (.int .i64 (nx s.data.toList j))/\World.grownBy _ w' none):=CN.o j _ hrd hj;have hxb:=Ag.o (nx s.data.toList j);have C2:Hd (∀w,Calls prog 237 #[.int .i64 (nx s.data.toList j)] w fun e w'=>e=.returned (.int .i64 (hexV (nx s.data.toList j)))/\w'=w):=CX.o _ (IZ.o j);have Pm:Hd (0<=hexV (nx s.data.toList j)->j<s.size):=cZ.o j hj;obtain⟨d,hd⟩:=zN (hexV (nx s.data.toList j));rw[hd]at C2 hf hxb Pm;obtain⟨x,hx⟩:=zN (nx s.data.toList j);rw[hx]at C1 C2;obtain⟨hd1,hd2⟩:=hxb;have jY:Hd ((if d<0 then .error (2,j) else four s.data.toList m (j+1) (16*c+d.toNat))=F):=hf;have hc4:c<4096:=Nat.lt_of_lt_of_le hc (Nat.pow_le_pow_right (by decide) (show k<=3 by omega));have HC:Hd (c<16 ^ k):=hc;clear hd hx hf hrd hg hm hk4 hk hc
   by_cases hd0:d<0
   ·have aB:Hd (G=.error (2,j)):=by
     show _=_;have:=jY.o;rw[if_pos hd0]at this;rw[Pj.o,<-this];rfl
    go_wp2_with (first|(go_at_call 104;refine C1.o.mono ?_;rintro e w2 ⟨rfl,hg2⟩)|(go_at_call 237;refine(C2.o _).mono ?_;rintro e w' ⟨rfl,rfl⟩)|(go_at_call 156;refine(CH.o j _ (aF HG.o hg2) (dG.o.grow hg2)).mono ?_;rintro e w5 ⟨⟨v,rfl,hv⟩,hg5⟩));refine bodyPost_ret (results_tmp2 (t:=4) (u:=5) rfl _ _ _) rfl ?_;rw[aB.o];exact⟨fun n j hh=>(by cases hh),fun c p hh=>(by cases hh;exact⟨v,rfl,dN.o _ _ _ hv,_,(dG.o.grow hg2).grow hg5⟩),aF (aF HG.o hg2) hg5⟩
   ·have hjl:j<s.size:=Pm.o (by omega);obtain⟨d,rfl⟩:∃d':Nat,d=(d':Int):=⟨d.toNat,by omega⟩;have gY:Hd (four s.data.toList m (j+1) (16*c+d)=F):=by
     have:=jY.o;rw[if_neg hd0]at this;show _=_;simpa using this
    have hd3:¬((d:Int)<0):=hd0;go_wp2_with (first|(go_at_call 104;refine C1.o.mono ?_;rintro e w2 ⟨rfl,hg2⟩;obtain⟨-,d1,-,df⟩:=(dG.o.grow hg2).cells;have df1:=df 1)|(go_at_call 237;refine(C2.o _).mono ?_;rintro e w' ⟨rfl,rfl⟩));rw[Xv c d hc4 (by omega)];have jW:Hd (Rd (w'.setCell ⟨R,1,none⟩ (.int .i64 ((j:Int)+1))) R s (j+1) T):=(dG.o.grow hg2).set (j+1);refine⟨⟨k+1,16*c+d,j+1,rfl,by simp,by omega,?_,by rw[hm2];exact gY.o,jW.o,by omega,aV (aF HG.o hg2) 1 _⟩,?_⟩
    ·have:=HC.o;rw[Nat.pow_succ];omega
    ·simp[intOf];omega
open Go.RowKit Go.Joins
def lI(x:Int):Option Nat:=if x=98 then some 8 else if x=116 then some 9 else if x=110 then some 10 else if x=102 then some 12 else if x=114 then some 13 else if x=34 then some 34 else if x=92 then some 92 else none
def lJ(l:List UInt8)(i:Nat):Rs (Nat × Nat) :=
 if nx l (i+1)=117 then tK l (i+2) i
 else match lI (nx l (i+1)) with
  | some n=>.ok (n,i+2)
  | none=>.error (2,i+1)
def Pn:Rs (Nat × Nat)->Rs (List UInt8 × Nat)
 | .error e=>.error e
 | .ok (n,j)=>.ok (fO n,j)
theorem I4(l:List UInt8)(i:Nat):esc l i=Pn (lJ l i):=by
 unfold esc lJ
 by_cases h:nx l (i+1)=117
 ·rw[if_pos h,if_pos h];unfold tK IW ny Ae
  cases four l 4 (i+2) 0 with
  | error e=>rfl
  | ok q =>
   obtain⟨n,j⟩:=q;simp only[decide_eq_true_eq]
   by_cases h2:55296<=n/\n<=57343
   ·rw[if_pos h2,if_pos (by omega)];rfl
   ·rw[if_neg h2,if_neg (by omega)];rfl
 ·rw[if_neg h,if_neg h];unfold lI
  repeat' split
  all_goals first|rfl|(simp_all;done)|(simp_all;subst_vars;rfl)
theorem Xx{a b:Int}{v:Value}(h:a=b):Ending.returned (.tuple #[.int .i32 a,v])=.returned (.tuple #[.int .i32 b,v]):=by rw[h]
theorem Xy(b:UInt8)(h:lI (b.toNat:Int)=none):Lib.indexByte [98,116,110,102,114,34,92] b=-1:=by
 have key:∀n:Fin 256,lI ((UInt8.ofNat n.val).toNat:Int)=none->Lib.indexByte [98,116,110,102,114,34,92] (UInt8.ofNat n.val)=-1:=by decide
 have:=key ⟨b.toNat,b.toNat_lt⟩;simp only[UInt8.ofNat_toNat]at this;exact this h
theorem Xz(b:UInt8)(n:Nat)(h:lI (b.toNat:Int)=some n):(Lib.indexByte [98,116,110,102,114,34,92] b=0/\n=8)\/(Lib.indexByte [98,116,110,102,114,34,92] b=1/\n=9)\/(Lib.indexByte [98,116,110,102,114,34,92] b=2/\n=10)\/(Lib.indexByte [98,116,110,102,114,34,92] b=3/\n=12)\/(Lib.indexByte [98,116,110,102,114,34,92] b=4/\n=13)\/(Lib.indexByte [98,116,110,102,114,34,92] b=5/\n=34)\/(Lib.indexByte [98,116,110,102,114,34,92] b=6/\n=92):=by
 have e:∀k:Nat,(b.toNat:Int)=(k:Int)->b=UInt8.ofNat k:=fun k hk=>by
  have:b.toNat=k:=by omega
  rw[<-this];simp
 unfold lI at h;split at h
 ·rename_i hb;rw[e 98 hb];cases h;exact Or.inl ⟨by decide,rfl⟩
 split at h
 ·rename_i hb;rw[e 116 hb];cases h;exact Or.inr (Or.inl ⟨by decide,rfl⟩)
 split at h
 ·rename_i hb;rw[e 110 hb];cases h;exact Or.inr (Or.inr (Or.inl ⟨by decide,rfl⟩))
 split at h
 ·rename_i hb;rw[e 102 hb];cases h;exact Or.inr (Or.inr (Or.inr (Or.inl ⟨by decide,rfl⟩)))
 split at h
 ·rename_i hb;rw[e 114 hb];cases h;exact Or.inr (Or.inr (Or.inr (Or.inr (Or.inl ⟨by decide,rfl⟩))))
 split at h
 ·rename_i hb;rw[e 34 hb];cases h;exact Or.inr (Or.inr (Or.inr (Or.inr (Or.inr (Or.inl ⟨by decide,rfl⟩)))))
 split at h
 ·rename_i hb;rw[e 92 hb];cases h;exact Or.inr (Or.inr (Or.inr (Or.inr (Or.inr (Or.inr ⟨by decide,rfl⟩)))))
 ·cases h
theorem XA(R:Nat)(s:ByteArray)(i T:Nat)(E:Int->TypeId × Value)(w:World)(h:Rd w R s i T)(hi:i<s.size)(hs:s.size<=1048576)(he:Es w E)(hR:Far R) :
  Calls prog 214 #[.pointer (some ⟨R,0,none⟩)] w (yD R s T E (lJ s.data.toList i) w):=by
 have CN:Hd (∀k w,Rd w R s k T->k<=s.size->Calls prog 104 #[.pointer (some ⟨R,0,none⟩)] w fun e w'=>e=.returned (.int .i64 (nx s.data.toList k))/\w.grownBy w' none):=fun k w h1 h2=>l7 R s k T w h1 h2 hs
 have CI:Hd (∀c w,Calls prog 229 #[.string ⟨#[98,116,110,102,114,34,92]⟩,.int .u8 c] w fun e w'=>e=.returned (.int .i64 (Lib.indexByte [98,116,110,102,114,34,92] c.toNat.toUInt8))/\w'=w):=fun c w=>Any.strings_IndexByte Tryz.lays137 ⟨#[98,116,110,102,114,34,92]⟩ c w
 have CU:Hd (∀k w',w.grownBy w' (some R)->Rd w' R s k T->k<=s.size->Calls prog 228 #[.pointer (some ⟨R,0,none⟩),.int .i64 (i:Nat)] w' (yD R s T E (tK s.data.toList k i) w')):=fun k w' hg hr hk=>Xw R s k T i E w' hr hk hs (he.grow hR hg) hR
 have CH:Hd (∀k w',w.grownBy w' (some R)->Rd w' R s k T->Calls prog 156 #[.pointer (some ⟨R,0,none⟩)] w' fun e w''=>(∃v,e=.returned v/\aS w'' v E 2 k)/\w'.grownBy w'' none):=fun k w' hg hr=>uS R s k T (E 2).1 (E 2).2 w' hr (he.grow hR hg).te
 have hl:s.data.toList.length=s.size:=by simp
 obtain⟨G,hG⟩:=zN (lJ s.data.toList i);have iV:Hd ((if nx s.data.toList (i+1)=117 then tK s.data.toList (i+2) i else match lI (nx s.data.toList (i+1)) with|some n=>.ok (n,i+2)|none=>.error (2,i+1))=G):=hG;rw[hG];have H0:Hd (Rd w R s i T):=h;have HS:Hd (Rd (w.setCell ⟨R,1,none⟩ (.int .i64 ((i:Int)+1))) R s (i+1) T):=h.set (i+1);have eP:Hd (w.grownBy (w.setCell ⟨R,1,none⟩ (.int .i64 ((i:Int)+1))) (some R)):=aV (ak w (some R)) 1 _;have cZ:Hd (∀k,k<=s.size->¬nx s.data.toList k=-1->k<s.size):=fun k hk hn=>by
  apply Classical.byContradiction;intro hh;exact hn (ji _ _ (by omega))
 have HAT:Hd (∀k (hk:k<s.size),nx s.data.toList k=(s[k].toNat:Int)):=fun k hk=>by
  rw[oP _ _ (by omega)];rfl
 have qo:Hd (lI (-1)=none):=by show _=_;decide
 obtain⟨-,c1,-,df⟩:=h.cells;have df1:=df 1;clear h hG he df;go_enter func214,ntmps214;obtain⟨m,hm⟩:=zN (i+1);have hm2:i+2=m+1:=by omega
 rw[hm]at HS;rw[hm2,hm]at iV;have hml:m<=s.size:=by omega
 have C1:Hd (∀w,Rd w R s m T->Calls prog 104 #[.pointer (some ⟨R,0,none⟩)] w fun e w'=>e=.returned (.int .i64 (nx s.data.toList m))/\w.grownBy w' none):=fun w h1=>CN.o m w h1 hml
 have xm:=cZ.o m hml;have HA1:Hd (∀hk:m<s.size,nx s.data.toList m=(s[m].toNat:Int)):=HAT.o m;obtain⟨x,hx⟩:=zN (nx s.data.toList m);rw[hx]at C1 xm iV HA1;have HL2:Hd (¬x=-1->m<s.size):=xm;clear hx xm hm hm2;go_wp2_with (go_at_call 104;refine(C1.o _ HS.o).mono ?_);rintro e w2 ⟨rfl,hg2⟩;have HR2:Hd (Rd w2 R s m T):=HS.o.grow hg2;have HG2:Hd (w.grownBy w2 (some R)):=aF eP.o hg2;clear hg2
 by_cases h117:x=117
 ·have hb:(x == 117)=true:=by simp[h117]
  have Po:m<s.size:=HL2.o (by rw[h117];decide);have aB:Hd (tK s.data.toList (m+1) i=G):=by
   have:=iV.o;rw[if_pos h117]at this;exact this
  obtain⟨-,d1,-,df⟩:=HR2.o.cells;have df2:=df 1;have jW:Hd (Rd (w2.setCell ⟨R,1,none⟩ (.int .i64 ((m:Int)+1))) R s (m+1) T):=HR2.o.set (m+1);have aO:Hd (w.grownBy (w2.setCell ⟨R,1,none⟩ (.int .i64 ((m:Int)+1))) (some R)):=aV HG2.o 1 _;have Pq:Hd (Calls prog 228 #[.pointer (some ⟨R,0,none⟩),.int .i64 (i:Nat)] (w2.setCell ⟨R,1,none⟩ (.int .i64 ((m:Int)+1))) (yD R s T E G (w2.setCell ⟨R,1,none⟩ (.int .i64 ((m:Int)+1))))):=by
   rw[<-aB.o];exact CU.o (m+1) _ aO.o jW.o (by omega)
  clear h117 df
  cases G with
  | ok q =>
   obtain⟨n,j⟩:=q;go_wp2_with (go_at_call 228;refine Pq.o.mono ?_;rintro e w4 ⟨h1,h2,h3⟩;obtain⟨rfl,hr4⟩:=h1 n j rfl);refine bodyPost_ret (results_tmp2 (t:=2) (u:=3) rfl _ _ _) rfl ?_;exact⟨fun n j hh=>(by cases hh;exact⟨rfl,hr4⟩),fun c p hh=>(by cases hh),dH aO.o h3⟩
  | error q =>
   obtain⟨c,q⟩:=q;go_wp2_with (go_at_call 228;refine Pq.o.mono ?_;rintro e w4 ⟨h1,h2,h3⟩;obtain⟨v,rfl,hv,jj,hjj⟩:=h2 c q rfl);refine bodyPost_ret (results_tmp2 (t:=2) (u:=3) rfl _ _ _) rfl ?_;exact⟨fun n j hh=>(by cases hh),fun c p hh=>(by cases hh;exact⟨v,rfl,hv,jj,hjj⟩),dH aO.o h3⟩
 ·have hb:(x == 117)=false:=by simp[h117]
  by_cases he1:x=-1
  ·have hb2:(x == -1)=true:=by simp[he1]
   have aB:Hd (G=.error (2,m)):=by
    have:=iV.o;rw[if_neg h117,he1,qo.o]at this;exact this.symm
   clear h117 he1;go_wp2_with (first|(go_at_call 104;refine(C1.o _ HR2.o).mono ?_;rintro e w3 ⟨rfl,hg3⟩)|(go_at_call 156;refine(CH.o m _ (aF HG2.o hg3) (HR2.o.grow hg3)).mono ?_;rintro e w5 ⟨⟨v,rfl,hv⟩,hg5⟩));refine bodyPost_ret (results_tmp2 (t:=2) (u:=3) rfl _ _ _) rfl ?_;rw[aB.o];exact⟨fun n j hh=>(by cases hh),fun c p hh=>(by cases hh;exact⟨v,rfl,hv,_,(HR2.o.grow hg3).grow hg5⟩),aF (aF HG2.o hg3) hg5⟩
  ·have hb2:(x == -1)=false:=by simp[he1]
   have Po:m<s.size:=HL2.o he1;obtain⟨b,hbm⟩:=zN (s[m]);have hxm:x=(b.toNat:Int):=by rw[<-hbm];exact HA1.o Po
   have aB:Hd ((match lI x with|some n=>.ok (n,m+1)|none=>.error (2,m))=G):=by
    have:=iV.o;rw[if_neg h117]at this;exact this
   have jk:Hd (∀w,Calls prog 229 #[.string ⟨#[98,116,110,102,114,34,92]⟩,.int .u8 (b.toNat:Int)] w fun e w'=>e=.returned (.int .i64 (Lib.indexByte [98,116,110,102,114,34,92] b))/\w'=w):=fun w=>by
    have:=CI.o (b.toNat:Int) w;simpa using this
   have qm:Hd (lI x=none->Lib.indexByte [98,116,110,102,114,34,92] b=-1):=by rw[hxm];exact Xy b
   have EG:Hd (∀n,lI x=some n->(Lib.indexByte [98,116,110,102,114,34,92] b=0/\n=8)\/(Lib.indexByte [98,116,110,102,114,34,92] b=1/\n=9)\/(Lib.indexByte [98,116,110,102,114,34,92] b=2/\n=10)\/(Lib.indexByte [98,116,110,102,114,34,92] b=3/\n=12)\/(Lib.indexByte [98,116,110,102,114,34,92] b=4/\n=13)\/(Lib.indexByte [98,116,110,102,114,34,92] b=5/\n=34)\/(Lib.indexByte [98,116,110,102,114,34,92] b=6/\n=92)):=by rw[hxm];exact Xz b
   obtain⟨K,hK⟩:=zN (Lib.indexByte [98,116,110,102,114,34,92] b);rw[hK]at jk qm EG;clear h117 he1 hxm hK;go_wp2_with (go_at_call 104;refine(C1.o _ HR2.o).mono ?_);rintro e w3 ⟨rfl,hg3⟩;have HR3:Hd (Rd w3 R s m T):=HR2.o.grow hg3;have aO:Hd (w.grownBy w3 (some R)):=aF HG2.o hg3;obtain⟨d0,d1,-,df⟩:=HR3.o.cells;have df2:=df 1;clear hg3 df;have rF:Hd (∀n,Rd ((w3.drewN n).setCell ⟨R,1,none⟩ (.int .i64 ((m:Int)+1))) R s (m+1) T):=fun n=>Rd.set (w:=w3.drewN n) (i:=m) HR3.o (m+1)
   have dQ:Hd (∀n,w.grownBy ((w3.drewN n).setCell ⟨R,1,none⟩ (.int .i64 ((m:Int)+1))) (some R)):=fun n=>aV (au aO.o n) 1 _
   cases hc:lI x with
   | none =>
    have hKn:=qm.o hc;rw[hc]at aB;subst hKn;clear hc;have uT:Hd (∀n,Calls prog 156 #[.pointer (some ⟨R,0,none⟩)] (w3.drewN n) fun e w''=>(∃v,e=.returned v/\aS w'' v E 2 m)/\(w3.drewN n).grownBy w'' none):=fun n=>CH.o m _ (au aO.o n) HR3.o
    go_wp2;go_quiet (first|(go_at_call 229;exact Calls.quiet_of_same (jk.o _)));go_wp2_with (go_at_call 156;refine(uT.o _).mono ?_;rintro e w5 ⟨⟨v,rfl,hv⟩,hg5⟩);refine bodyPost_ret (results_tmp2 (t:=2) (u:=3) rfl _ _ _) rfl ?_;rw[<-aB.o];exact⟨fun n j hh=>(by cases hh),fun c p hh=>(by cases hh;exact⟨v,rfl,hv,_,Rd.grow (w:=World.drewN w3 _) HR3.o hg5⟩),aF (au aO.o _) hg5⟩
   | some n =>
    have XB:=EG.o n hc;rw[hc]at aB;clear hc
    rcases XB with⟨rfl,rfl⟩|⟨rfl,rfl⟩|⟨rfl,rfl⟩|⟨rfl,rfl⟩|⟨rfl,rfl⟩|⟨rfl,rfl⟩|⟨rfl,rfl⟩
    all_goals (
     go_wp2;go_quiet (first|(go_at_call 229;exact Calls.quiet_of_same (jk.o _)));go_wp2;refine bodyPost_ret (results_tmp2 (t:=2) (u:=3) rfl _ _ _) rfl ?_;rw[<-aB.o];exact⟨fun n j hh=>(by cases hh;exact⟨Xx (by first|(unfold wrap32;decide)|(unfold wrap32;rfl)|(unfold wrap32;simp[ByteArray.getElem_eq_getElem_data];done)),rF.o _⟩),fun c p hh=>(by cases hh),dQ.o _⟩)
open Go.RowKit Go.Joins
def Dd(w:World)(R:Nat)(s:ByteArray)(L O:Value)(now de i:Nat)(er:Int)(p:Nat):Prop:=w.heap[R]?=some (.cells #[.string s,.int .i64 (i:Nat),L,O,.int .i64 (now:Nat),.int .i64 er,.int .i64 (p:Nat),.int .i64 (de:Nat)] 74 (0,0))
section
variable {w w':World} {R:Nat} {s:ByteArray} {L O:Value} {now de i:Nat} {er:Int} {p:Nat}
theorem Dd.grow(h:Dd w R s L O now de i er p)(hg:w.grownBy w' none):Dd w' R s L O now de i er p:=(hg.block R (kG h) (by simp)).trans h
theorem Dd.cells(h:Dd w R s L O now de i er p):w.cell? ⟨R,0,none⟩=some (.string s)/\w.cell? ⟨R,1,none⟩=some (.int .i64 (i:Nat))/\w.cell? ⟨R,2,none⟩=some L/\w.cell? ⟨R,3,none⟩=some O/\w.cell? ⟨R,4,none⟩=some (.int .i64 (now:Nat))/\w.cell? ⟨R,5,none⟩=some (.int .i64 er)/\w.cell? ⟨R,6,none⟩=some (.int .i64 (p:Nat))/\w.cell? ⟨R,7,none⟩=some (.int .i64 (de:Nat))/\∀k,w.frozen? ⟨R,k,none⟩=false :=
 ⟨by rw[af h];rfl,by rw[af h];rfl,by rw[af h];rfl,by rw[af h];rfl,by rw[af h];rfl,by rw[af h];rfl,by rw[af h];rfl,by rw[af h];rfl,fun k=>Lib.frozen_of_heap h k⟩
theorem Dd.setI(h:Dd w R s L O now de i er p)(j:Nat):Dd (w.setCell ⟨R,1,none⟩ (.int .i64 (j:Nat))) R s L O now de j er p:=block_setCell (i:=1) h _
theorem Dd.setL(h:Dd w R s L O now de i er p)(v:Value):Dd (w.setCell ⟨R,2,none⟩ v) R s v O now de i er p:=block_setCell (i:=2) h _
theorem Dd.setO(h:Dd w R s L O now de i er p)(v:Value):Dd (w.setCell ⟨R,3,none⟩ v) R s L v now de i er p:=block_setCell (i:=3) h _
theorem Dd.setN(h:Dd w R s L O now de i er p)(j:Nat):Dd (w.setCell ⟨R,4,none⟩ (.int .i64 (j:Nat))) R s L O j de i er p:=block_setCell (i:=4) h _
theorem Dd.setE(h:Dd w R s L O now de i er p)(e:Int):Dd (w.setCell ⟨R,5,none⟩ (.int .i64 e)) R s L O now de i e p:=block_setCell (i:=5) h _
theorem Dd.setA(h:Dd w R s L O now de i er p)(j:Nat):Dd (w.setCell ⟨R,6,none⟩ (.int .i64 (j:Nat))) R s L O now de i er j:=block_setCell (i:=6) h _
theorem Dd.setD(h:Dd w R s L O now de i er p)(j:Nat):Dd (w.setCell ⟨R,7,none⟩ (.int .i64 (j:Nat))) R s L O now j i er p:=block_setCell (i:=7) h _
end
def Ds(w:World)(R:Nat)(s:ByteArray)(L O:Value)(now de:Nat)(q:Rs Nat):Prop:=match q with | .ok i=>i<=s.size/\Dd w R s L O now de i 0 0 | .error (c,p)=>c≠0/\∃j,j<=s.size/\Dd w R s L O now de j c p
theorem Ds.grow{w w':World}{R:Nat}{s:ByteArray}{L O:Value}{now de:Nat}{q:Rs Nat}(h:Ds w R s L O now de q)(hg:w.grownBy w' none):Ds w' R s L O now de q:=by
 match q,h with
 | .ok i,h=>exact⟨h.1,h.2.grow hg⟩
 | .error (c,p),⟨h1,j,h2,h3⟩=>exact⟨h1,j,h2,h3.grow hg⟩
def ed(l:List UInt8)(q:Rs Nat)(c:Int):Bool:=match q with | .ok i=>decide (nx l i=c) | .error _=>false
theorem I5(R:Nat)(s:ByteArray)(L O:Value)(now de i:Nat)(er:Int)(p:Nat)(e:Int)(a:Nat)(w:World)(h:Dd w R s L O now de i er p)(hE:¬er=0) :
  Calls prog 82 #[.pointer (some ⟨R,0,none⟩),.int .i64 e,.int .i64 (a:Nat)] w fun en w'=>en=.returned (.tuple #[])/\w'=w:=by
 obtain⟨-,-,-,-,-,c5,-,-,-⟩:=h.cells;have hn:(er == 0)=false:=by simpa using hE
 clear h hE;go_enter func82,ntmps82;go_wp2;exact bodyPost_end (results_none rfl _ _ _) rfl ⟨rfl,rfl⟩
theorem oV(R:Nat)(s:ByteArray)(L O:Value)(now de i:Nat)(e:Int)(a:Nat)(w:World)(h:Dd w R s L O now de i 0 0) :
  Calls prog 82 #[.pointer (some ⟨R,0,none⟩),.int .i64 e,.int .i64 (a:Nat)] w fun en w'=>en=.returned (.tuple #[])/\Dd w' R s L O now de i e a/\w.grownBy w' (some R):=by
 obtain⟨-,-,-,-,-,c5,c6,-,df⟩:=h.cells;have df5:=df 5;have df6:=df 6;have HS:Hd (Dd ((w.setCell ⟨R,5,none⟩ (.int .i64 e)).setCell ⟨R,6,none⟩ (.int .i64 (a:Nat))) R s L O now de i e a):=(h.setE e).setA a;have HG:Hd (w.grownBy ((w.setCell ⟨R,5,none⟩ (.int .i64 e)).setCell ⟨R,6,none⟩ (.int .i64 (a:Nat))) (some R)):=aV (aV (ak w (some R)) 5 _) 6 _;clear h df;go_enter func82,ntmps82;go_wp2;exact bodyPost_end (results_none rfl _ _ _) rfl ⟨rfl,HS.o,HG.o⟩
theorem rG(R:Nat)(s:ByteArray)(L O:Value)(now de:Nat)(q:Rs Nat)(c:Int)(hc:0<=c)(w:World)(h:Ds w R s L O now de q)(hs:s.size<=1048576) :
  Calls prog 52 #[.pointer (some ⟨R,0,none⟩),.int .u8 c] w fun e w'=>e=.returned (.bool (ed s.data.toList q c))/\w.grownBy w' none:=by
 have hl:s.data.toList.length=s.size:=by simp
 match q,h with
 | .error (k,p),⟨h1,j,h2,h3⟩ =>
  obtain⟨c0,c1,-,-,-,c5,-,-,-⟩:=h3.cells;have hn:(k == 0)=false:=by simpa using h1
  have e:ed s.data.toList (.error (k,p)) c=false:=rfl;rw[e];clear h3 h1 e;go_enter func52,ntmps52;go_wp2;go_quiet (fail);go_wp2;go_ret;exact⟨rfl,⟨rfl,rfl,rfl,Nat.le_refl _,fun _ _ _=>rfl⟩⟩
 | .ok i,⟨h1,h2⟩ =>
  obtain⟨c0,c1,-,-,-,c5,-,-,-⟩:=h2.cells;have e:ed s.data.toList (.ok i) c=decide (nx s.data.toList i=c):=rfl;rw[e];clear h2 e
  by_cases hlt:i<s.size
  ·have hn:nx s.data.toList i=(s[i].toNat:Int):=by rw[oP _ _ (by omega)];rfl
   rw[hn];obtain⟨b,hb⟩:=zN (((s[i].toNat:Int) == c));have hb2:decide ((s[i].toNat:Int)=c)=b:=by rw[<-hb,Bool.eq_iff_iff];simp
   have hlt':decide ((i:Int)<(s.size:Int))=true:=by simp;omega
   rw[hb2];clear hn hb2
   cases b with
   | true =>
    go_enter func52,ntmps52;go_wp2;go_quiet (fail);go_wp2;go_ret;exact⟨rfl,⟨rfl,rfl,rfl,Nat.le_refl _,fun _ _ _=>rfl⟩⟩
   | false =>
    go_enter func52,ntmps52;go_wp2;go_quiet (fail);go_wp2;go_ret;exact⟨rfl,⟨rfl,rfl,rfl,Nat.le_refl _,fun _ _ _=>rfl⟩⟩
  ·rw[ji _ _ (by omega),decide_eq_false (by omega)];have hge:decide ((i:Int)<(s.size:Int))=false:=by simp;omega
   go_enter func52,ntmps52;go_wp2;go_quiet (fail);go_wp2;go_ret;exact⟨rfl,⟨rfl,rfl,rfl,Nat.le_refl _,fun _ _ _=>rfl⟩⟩
theorem I7(R:Nat)(s:ByteArray)(L O:Value)(now de:Nat)(q:Rs Nat)(c:Int)(hc:0<=c)(w:World)(h:Ds w R s L O now de q)(hs:s.size<=1048576) :
  Calls prog 56 #[.pointer (some ⟨R,0,none⟩),.int .u8 c] w fun e w'=>e=.returned (.tuple #[])/\Ds w' R s L O now de (q.bind fun i=>must s.data.toList i c)/\w.grownBy w' (some R):=by
 have hl:s.data.toList.length=s.size:=by simp
 have CI:Hd (Calls prog 52 #[.pointer (some ⟨R,0,none⟩),.int .u8 c] w fun e w'=>e=.returned (.bool (ed s.data.toList q c))/\w.grownBy w' none):=rG R s L O now de q c hc w h hs
 match q,h with
 | .error (k,p),⟨h1,j,h2,h3⟩ =>
  have e:ed s.data.toList (.error (k,p)) c=false:=rfl;rw[e]at CI;have HD:Hd (Dd w R s L O now de j k p):=h3;have HK:Hd (k≠0):=h1;have HJ:Hd (j<=s.size):=h2;clear h3 h1 h2 e;go_enter func56,ntmps56;go_wp2_with (go_at_call 52;refine CI.o.mono ?_);rintro e w1 ⟨rfl,hg1⟩;have HD1:Hd (Dd w1 R s L O now de j k p):=HD.o.grow hg1;have ay:Hd (w.grownBy w1 (some R)):=aF (ak w (some R)) hg1;obtain⟨-,c1,-⟩:=HD1.o.cells;clear hg1;go_wp2_with (go_at_call 82;refine(I5 R s L O now de j k p _ _ _ HD1.o HK.o).mono ?_;rintro e w2 ⟨rfl,rfl⟩);refine bodyPost_ret (results_none rfl _ _ _) rfl ?_;exact⟨rfl,⟨HK.o,j,HJ.o,HD1.o⟩,ay.o⟩
 | .ok i,⟨h1,h2⟩ =>
  have e:ed s.data.toList (.ok i) c=decide (nx s.data.toList i=c):=rfl;rw[e]at CI;have HD:Hd (Dd w R s L O now de i 0 0):=h2;have HI:Hd (i<=s.size):=h1;have e2:(Except.bind (.ok i) fun i=>must s.data.toList i c:Rs Nat)=if nx s.data.toList i=c then .ok (i+1) else .error (2,i):=rfl;rw[e2];have cZ:Hd (nx s.data.toList i=c->i<s.size):=fun hn=>by rw[<-hl];exact bu (by omega)
  clear h2 e e2
  by_cases hn:nx s.data.toList i=c
  ·rw[decide_eq_true hn]at CI;rw[if_pos hn];have hlt:=cZ.o hn;clear hn cZ;go_enter func56,ntmps56;go_wp2_with (go_at_call 52;refine CI.o.mono ?_);rintro e w1 ⟨rfl,hg1⟩;have HD1:Hd (Dd w1 R s L O now de i 0 0):=HD.o.grow hg1;have ay:Hd (w.grownBy w1 (some R)):=aF (ak w (some R)) hg1;obtain⟨-,c1,-,-,-,-,-,-,df⟩:=HD1.o.cells;have df1:=df 1;have HS:Hd (Dd (w1.setCell ⟨R,1,none⟩ (.int .i64 ((i:Int)+1))) R s L O now de (i+1) 0 0):=HD1.o.setI (i+1);clear hg1 df;go_wp2;exact bodyPost_end (results_none rfl _ _ _) rfl ⟨rfl,⟨by omega,HS.o⟩,aV ay.o 1 _⟩
  ·rw[decide_eq_false hn]at CI;rw[if_neg hn];clear hn cZ;go_enter func56,ntmps56;go_wp2_with (go_at_call 52;refine CI.o.mono ?_);rintro e w1 ⟨rfl,hg1⟩;have HD1:Hd (Dd w1 R s L O now de i 0 0):=HD.o.grow hg1;have ay:Hd (w.grownBy w1 (some R)):=aF (ak w (some R)) hg1;obtain⟨-,c1,-⟩:=HD1.o.cells;clear hg1;go_wp2_with (go_at_call 82;refine(oV R s L O now de i 2 i _ HD1.o).mono ?_;rintro e w2 ⟨rfl,h2,h3⟩);refine bodyPost_ret (results_none rfl _ _ _) rfl ?_;exact⟨rfl,⟨by decide,i,HI.o,h2⟩,dH ay.o h3⟩
end Go.Proofs.YtnnbgjaphfhibaaGreatDoor
