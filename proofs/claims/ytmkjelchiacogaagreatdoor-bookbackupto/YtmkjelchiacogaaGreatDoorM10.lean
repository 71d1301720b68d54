import Derived.Test.YtmkjelchiacogaaGreatDoorM09
import Derived.Shelf.SlSortCmp.NoneTotal
import Derived.Test.YtmkjelchiacogaaGreatDoorProg
import Derived.Shelf.Small.Strs
set_option linter.unusedVariables false
set_option linter.unusedSimpArgs false
set_option maxRecDepth 100000
set_option maxHeartbeats 6400000
open Go.Proofs.Tryz
namespace Go.Proofs.YtmkjelchiacogaaGreatDoor
open Go.RowKit Go.Maps Go.WideMaps Go.Joins
def jg(l:List UInt8)(d:Sd)(c:Bool × Nat):Rs Sd :=
 if c.1=false then .error (2,c.2)
 else if nx l c.2=-1 then .ok ⟨c.2,d.ns,d.own,d.now⟩
 else match must l c.2 10 with
  | .error e=>.error e
  | .ok j=>.ok ⟨j,d.ns,d.own,d.now⟩
def zO(l:List UInt8):Rs Sd->Rs Sd
 | .error e=>.error e
 | .ok d=>jg l d (bi l (bl l d.i))
theorem zQ(l:List UInt8)(i:Nat)(ns:List Tn)(own:List Nat)(now:Nat):jI l ⟨i,ns,own,now⟩=zO l (if nx l (bl l i)=91 then jS l ⟨bl l i,ns,own,now⟩ else if nx l (bl l i)=34\/aV (nx l (bl l i))=true then rdPair l ⟨bl l i,ns,own,now⟩ else .ok ⟨bl l i,ns,own,now⟩):=by
 unfold jI;simp only[]
 cases (if nx l (bl l i)=91 then jS l ⟨bl l i,ns,own,now⟩ else if nx l (bl l i)=34\/aV (nx l (bl l i))=true then rdPair l ⟨bl l i,ns,own,now⟩ else .ok ⟨bl l i,ns,own,now⟩) with
 | error e=>rfl
 | ok d=>rfl
theorem abe(B R T:Nat)(s:ByteArray)(E:Int->TypeId × Value)(own:List Nat)(now i:Nat)(ns:List Tn)(w:World)(h:Rd w R s i T)(htr:Tr w B T ns own now)(G:Gl w B E)(hR:B<=R)(hs:s.size<=100000)(L:Li s.data.toList ⟨i,ns,own,now⟩) :
  Calls prog 48 #[.pointer (some ⟨R,0,none⟩)] w (lT B R T s E (jI s.data.toList ⟨i,ns,own,now⟩) w):=by
 have hl:s.data.toList.length=s.size:=by simp
 have hB:B<=w.heap.size:=htr.base;have hi:i<=s.size:=by have:=L.le;simp only[]at this;omega
 have CN:Hd (∀k w,Rd w R s k T->k<=s.size->Calls prog 74 #[.pointer (some ⟨R,0,none⟩)] w fun e w'=>e=.returned (.int .i64 (nx s.data.toList k))/\w.grownBy w' none):=fun k w h1 h2=>mr R s k T w h1 h2 (by omega)
 have CB:Hd (∀c w,Calls prog 76 #[.int .i64 c] w fun e w'=>e=.returned (.bool (aV c))/\w'=w):=Ji;have CS:Hd (∀k w,Rd w R s k T->k<=s.size->Calls prog 73 #[.pointer (some ⟨R,0,none⟩)] w fun e w'=>e=.returned (.tuple #[])/\Rd w' R s (bl s.data.toList k) T/\w.grownBy w' (some R)):=fun k w h1 h2=>Fp R s k T w h1 h2 (by omega)
 have CC:Hd (∀k w',Rd w' R s k T->Below B w w'->k<=s.size->Calls prog 78 #[.pointer (some ⟨R,0,none⟩)] w' (uV R s T (E 2).1 (E 2).2 (bi s.data.toList k) w')):=fun k w' h1 hb hk=>P9 R s k T (E 2).1 (E 2).2 w' h1 hk (by omega) (G.bel hb).es.te (zF G.lo hR).te
 have CT:Hd (∀k ns own now w',Rd w' R s k T->Tr w' B T ns own now->Below B w w'->k<=s.size->Calls prog 79 #[.pointer (some ⟨R,0,none⟩),.int .i64 10] w' (uw B R T s E own now ns (must s.data.toList k 10) w')):=fun k ns own now w' h1 h2 hb hk=>RD B R T s E own now k 10 (by decide) ns w' h1 h2 (G.bel hb) hR hk hs
 have fP:Hd (∀k,k<=s.size->k<=bl s.data.toList k/\bl s.data.toList k<=s.size):=fun k hk=>by rw[<-hl];exact lh _ k (by omega)
 have HCM:Hd (∀k,k<=s.size->k<=(bi s.data.toList k).2/\(bi s.data.toList k).2<=s.size):=fun k hk=>by rw[<-hl];exact AX _ k (by omega)
 obtain⟨b1,b2⟩:=fP.o i hi;have C1:=CS.o i w h hi;have jb:=zQ s.data.toList i ns own now;obtain⟨j,hj⟩:=zN (bl s.data.toList i);rw[hj]at C1 b1 b2 jb;have L':Li s.data.toList ⟨j,ns,own,now⟩:=⟨L.jt,L.rt,by simp only[];omega,by have:=L.nn;simp only[]at this ⊢;omega,by have:=L.on;simp only[]at this ⊢;omega⟩;have Cf:Hd (nx s.data.toList j=91->∀w',Rd w' R s j T->Tr w' B T ns own now->Below B w w'->Calls prog 75 #[.pointer (some ⟨R,0,none⟩)] w' (lT B R T s E (jS s.data.toList ⟨j,ns,own,now⟩) w')):=fun hx w' h1 h2 hb=>aa9 B R T s E own now j ns w' h1 h2 (G.bel hb) hR (by have:=cZ (l:=s.data.toList) (i:=j) (by rw[hx];decide);omega) hs L'.jt L'.rt (by have:=L'.nn;have:=L'.on;simp only[]at *;omega)
 have Ci:Hd (∀w',Rd w' R s j T->Tr w' B T ns own now->Below B w w'->Calls prog 77 #[.pointer (some ⟨R,0,none⟩)] w' (lT B R T s E (rdPair s.data.toList ⟨j,ns,own,now⟩) w')):=fun w' h1 h2 hb=>aa5 B R T s E own now j ns w' h1 h2 (G.bel hb) hR b2 hs L'.jt (by have:=L'.nn;have:=L'.on;simp only[]at *;omega)
 have Cj:Hd (nx s.data.toList j=91->∀d,jS s.data.toList ⟨j,ns,own,now⟩=.ok d->d.i<=s.size):=fun hx d hd=>by
  have:=(Kz s.data.toList _ d L' (cZ (l:=s.data.toList) (i:=j) (by rw[hx];decide)) hd).1.le;omega
 have dF:Hd (∀d,rdPair s.data.toList ⟨j,ns,own,now⟩=.ok d->d.i<=s.size):=fun d hd=>by
  have:=(Ky s.data.toList _ d L' hd).1.le;omega
 obtain⟨S,hS⟩:=zN (jI s.data.toList ⟨i,ns,own,now⟩);rw[hS]at jb ⊢;obtain⟨HD,SB⟩:=zN (jS s.data.toList ⟨j,ns,own,now⟩);obtain⟨PR,SC⟩:=zN (rdPair s.data.toList ⟨j,ns,own,now⟩);rw[SB]at jb Cf Cj;rw[SC]at jb Ci dF;obtain⟨x,hx⟩:=zN (nx s.data.toList j);rw[hx]at jb Cf Cj;have HP:Hd (S=_):=jb;have BJ:Hd (Calls prog 73 #[.pointer (some ⟨R,0,none⟩)] w fun e w'=>e=.returned (.tuple #[])/\Rd w' R s j T/\w.grownBy w' (some R)):=C1;have C2:Hd (∀w',Rd w' R s j T->Calls prog 74 #[.pointer (some ⟨R,0,none⟩)] w' fun e w''=>e=.returned (.int .i64 x)/\w'.grownBy w'' none):=fun w' hh=>by rw[<-hx];exact CN.o j w' hh b2
 have mO:Hd (Tr w B T ns own now):=htr;have H0:Hd (Rd w R s i T):=h;clear jb hS SB SC hx hj C1 h htr G L L';go_enter func48,ntmps48;go_wp2_with (go_at_call 73;refine BJ.o.mono ?_);rintro e w1 ⟨rfl,hr1,hg1⟩;have HR1:Hd (Rd w1 R s j T):=hr1;have HB1:Hd (Below B w w1):=iP hg1 hR hB;have HT1:Hd (Tr w1 B T ns own now):=mO.o.keepR H0.o hg1;clear hr1 hg1;go_wp2_with (go_at_call 74;refine(C2.o _ HR1.o).mono ?_);rintro e w2 ⟨rfl,hg2⟩;have HR2:Hd (Rd w2 R s j T):=HR1.o.grow hg2;have HB2:Hd (Below B w w2):=HB1.o.trans (kQ hg2 HT1.o.base);have HT2:Hd (Tr w2 B T ns own now):=HT1.o.gb hg2;clear hg2
 by_cases c91:x=91
 ·have e91:(x == 91)=true:=by simp[c91]
  have abf:Hd (∀w',Rd w' R s j T->Tr w' B T ns own now->Below B w w'->Calls prog 75 #[.pointer (some ⟨R,0,none⟩)] w' (lT B R T s E HD w')):=Cf.o c91;have abg:Hd (∀d,HD=.ok d->d.i<=s.size):=Cj.o c91;have qU:Hd (S=zO s.data.toList HD):=by
   have:=HP.o;rw[if_pos c91]at this;exact this
  clear c91 HP Cf Cj Ci dF CB;go_wp2_with (go_at_call 75;refine(abf.o _ HR2.o HT2.o HB2.o).mono ?_);rintro e w3 ⟨p1,p2,p3⟩;have sQ:Hd (Below B w w3):=HB2.o.trans p3
  cases HD with
  | error ec =>
   obtain⟨ec1,ec2⟩:=ec;obtain⟨F,rfl,hF⟩:=p2 ec1 ec2 rfl;have aZ:Hd (aF w3 (.iface 104 (.pointer (some ⟨F,0,none⟩))) E ec1 ec2):=hF;have aj:Hd (S=.error (ec1,ec2)):=qU.o;clear p1 p2 p3 hF;go_wp2;refine bodyPost_ret (results_tmp (t:=2) rfl _ _ _) rfl ?_;rw[aj.o];exact⟨fun d hh=>(by cases hh),fun c p hh=>(by cases hh;exact⟨F,rfl,aZ.o⟩),sQ.o⟩
  | ok d =>
   obtain⟨rfl,hr3,ht3⟩:=p1 d rfl;have hdl:=abg.o d rfl;have qV:Hd (Rd w3 R s d.i T):=hr3;have qW:Hd (Tr w3 B T d.ns d.own d.now):=ht3;have qX:Hd (S=jg s.data.toList d (bi s.data.toList (bl s.data.toList d.i))):=qU.o;clear p1 p2 p3 hr3 ht3 qU;obtain⟨g1,g2⟩:=fP.o d.i hdl;have C5:=CS.o d.i w3 qV.o hdl;have jP:=qX.o;obtain⟨j5,qY⟩:=zN (bl s.data.toList d.i);rw[qY]at C5 g1 g2 jP;have uA:Hd (Calls prog 73 #[.pointer (some ⟨R,0,none⟩)] w3 fun e wz=>e=.returned (.tuple #[])/\Rd wz R s j5 T/\w3.grownBy wz (some R)):=C5;obtain⟨f1,f2⟩:=HCM.o j5 g2;have mV:=CC.o j5;obtain⟨cm,hcm⟩:=zN (bi s.data.toList j5);rw[hcm]at mV jP f1 f2;obtain⟨okb,j6⟩:=cm;simp only[]at f1 f2;have yu:Hd (∀w',Rd w' R s j5 T->Below B w w'->Calls prog 78 #[.pointer (some ⟨R,0,none⟩)] w' (uV R s T (E 2).1 (E 2).2 (okb,j6) w')):=fun w' a b=>mV w' a b g2
   have mW:Hd (S=jg s.data.toList d (okb,j6)):=jP;clear C5 mV jP qY hcm qX;go_wp2_with (go_at_call 73;refine uA.o.mono ?_);rintro e w5 ⟨rfl,iE,hg5⟩;have iy:Hd (Rd w5 R s j5 T):=iE;have kz:Hd (Below B w w5):=sQ.o.trans (iP hg5 hR qW.o.base);have qZ:Hd (Tr w5 B T d.ns d.own d.now):=qW.o.keepR qV.o hg5;clear iE hg5;go_wp2_with (go_at_call 78;refine(yu.o _ iy.o kz.o).mono ?_);rintro e w6 ⟨q1,q2,q3,q4⟩;have fG:Hd (Rd w6 R s j6 T):=q3;have oK:Hd (Below B w w6):=kz.o.trans (iP q4 hR qZ.o.base);have rq:Hd (Tr w6 B T d.ns d.own d.now):=qZ.o.keepR iy.o q4;clear q3 q4
   cases okb with
   | false =>
    obtain⟨v,rfl,F,rfl,hF⟩:=q2 rfl;have aZ:Hd (aF w6 (.iface 104 (.pointer (some ⟨F,0,none⟩))) E 2 j6):=⟨F,rfl,hF⟩;have aj:Hd (S=.error (2,j6)):=by
     have:=mW.o;unfold jg at this;rw[if_pos rfl]at this;exact this
    clear q1 q2 hF;go_wp2;refine bodyPost_ret (results_tmp (t:=2) rfl _ _ _) rfl ?_;rw[aj.o];exact⟨fun d hh=>(by cases hh),fun c p hh=>(by cases hh;exact⟨F,rfl,aZ.o⟩),oK.o⟩
   | true =>
    obtain rfl:=q1 rfl;have C7:Hd (Calls prog 74 #[.pointer (some ⟨R,0,none⟩)] w6 fun e w'=>e=.returned (.int .i64 (nx s.data.toList j6))/\w6.grownBy w' none):=CN.o j6 w6 fG.o f2;have fA:=mW.o;unfold jg at fA;rw[if_neg (by simp)]at fA;simp only[]at fA;have mX:=CT.o j6 d.ns d.own d.now;obtain⟨MU,iQ⟩:=zN (must s.data.toList j6 10);rw[iQ]at fA mX;obtain⟨y,hy⟩:=zN (nx s.data.toList j6);rw[hy]at fA C7;have ru:Hd (S=_):=fA;have yw:Hd (∀w',Rd w' R s j6 T->Tr w' B T d.ns d.own d.now->Below B w w'->j6<=s.size->Calls prog 79 #[.pointer (some ⟨R,0,none⟩),.int .i64 10] w' (uw B R T s E d.own d.now d.ns MU w')):=mX;clear q1 q2 fA mX iQ hy mW;go_wp2_with (go_at_call 74;refine C7.o.mono ?_);rintro e w7 ⟨rfl,fU⟩;have lw:Hd (Rd w7 R s j6 T):=fG.o.grow fU;have gJ:Hd (Below B w w7):=oK.o.trans (kQ fU rq.o.base)
    have ry:Hd (Tr w7 B T d.ns d.own d.now):=rq.o.gb fU;clear fU
    by_cases cy:y=-1
    ·have ey:(y == -1)=true:=by simp[cy]
     have aj:Hd (S=.ok ⟨j6,d.ns,d.own,d.now⟩):=by
      have:=ru.o;rw[if_pos cy]at this;exact this
     clear cy;go_wp2;refine bodyPost_ret (results_tmp (t:=2) rfl _ _ _) rfl ?_;rw[aj.o];exact⟨fun d hh=>(by cases hh;exact⟨rfl,lw.o,ry.o⟩),fun c p hh=>(by cases hh),gJ.o⟩
    ·have ey:(y == -1)=false:=by simp[cy]
     have aj:Hd (S=match (generalizing:=false) MU with | .error e=>.error e | .ok j=>.ok ⟨j,d.ns,d.own,d.now⟩):=by
      have:=ru.o;rw[if_neg cy]at this;exact this
     clear cy;go_wp2_with (go_at_call 79;refine(yw.o _ lw.o ry.o gJ.o f2).mono ?_);rintro e w8 ⟨t1,t2,t3⟩
     cases MU with
     | error ec =>
      obtain⟨ec1,ec2⟩:=ec;obtain⟨F,rfl,hF⟩:=t2 ec1 ec2 rfl;have aZ:Hd (aF w8 (.iface 104 (.pointer (some ⟨F,0,none⟩))) E ec1 ec2):=hF;have lC:Hd (Below B w w8):=gJ.o.trans t3;have mY:Hd (S=.error (ec1,ec2)):=aj.o;clear t1 t2 t3 hF;go_wp2;refine bodyPost_ret (results_tmp (t:=2) rfl _ _ _) rfl ?_;rw[mY.o];exact⟨fun d hh=>(by cases hh),fun c p hh=>(by cases hh;exact⟨F,rfl,aZ.o⟩),lC.o⟩
     | ok j8 =>
      obtain⟨rfl,mP,rC⟩:=t1 j8 rfl;have mJ:Hd (Rd w8 R s j8 T):=mP;have yx:Hd (Tr w8 B T d.ns d.own d.now):=rC;have lC:Hd (Below B w w8):=gJ.o.trans t3;have mY:Hd (S=.ok ⟨j8,d.ns,d.own,d.now⟩):=aj.o;clear t1 t2 t3 mP rC;go_wp2;refine bodyPost_ret (results_tmp (t:=2) rfl _ _ _) rfl ?_;rw[mY.o];exact⟨fun d hh=>(by cases hh;exact⟨rfl,mJ.o,yx.o⟩),fun c p hh=>(by cases hh),lC.o⟩
 ·have e91:(x == 91)=false:=by simp[c91]
  have dI:Hd (S=zO s.data.toList (if x=34\/aV x=true then PR else .ok ⟨j,ns,own,now⟩)):=by
   have:=HP.o;rw[if_neg c91]at this;exact this
  clear c91 HP Cf Cj
  by_cases c34:x=34
  ·have e34:(x == 34)=true:=by simp[c34]
   have qU:Hd (S=zO s.data.toList PR):=by
    have:=dI.o;rw[if_pos (Or.inl c34)]at this;exact this
   clear c34 dI CB;go_wp2_with (go_at_call 77;refine(Ci.o _ HR2.o HT2.o HB2.o).mono ?_);rintro e w3 ⟨p1,p2,p3⟩;have sQ:Hd (Below B w w3):=HB2.o.trans p3
   cases PR with
   | error ec =>
    obtain⟨ec1,ec2⟩:=ec;obtain⟨F,rfl,hF⟩:=p2 ec1 ec2 rfl;have aZ:Hd (aF w3 (.iface 104 (.pointer (some ⟨F,0,none⟩))) E ec1 ec2):=hF;have aj:Hd (S=.error (ec1,ec2)):=qU.o;clear p1 p2 p3 hF;go_wp2;refine bodyPost_ret (results_tmp (t:=2) rfl _ _ _) rfl ?_;rw[aj.o];exact⟨fun d hh=>(by cases hh),fun c p hh=>(by cases hh;exact⟨F,rfl,aZ.o⟩),sQ.o⟩
   | ok d =>
    obtain⟨rfl,hr3,ht3⟩:=p1 d rfl;have hdl:=dF.o d rfl;have qV:Hd (Rd w3 R s d.i T):=hr3;have qW:Hd (Tr w3 B T d.ns d.own d.now):=ht3;have qX:Hd (S=jg s.data.toList d (bi s.data.toList (bl s.data.toList d.i))):=qU.o;clear p1 p2 p3 hr3 ht3 qU;obtain⟨g1,g2⟩:=fP.o d.i hdl;have C5:=CS.o d.i w3 qV.o hdl;have jP:=qX.o;obtain⟨j5,qY⟩:=zN (bl s.data.toList d.i);rw[qY]at C5 g1 g2 jP;have uA:Hd (Calls prog 73 #[.pointer (some ⟨R,0,none⟩)] w3 fun e wz=>e=.returned (.tuple #[])/\Rd wz R s j5 T/\w3.grownBy wz (some R)):=C5;obtain⟨f1,f2⟩:=HCM.o j5 g2;have mV:=CC.o j5;obtain⟨cm,hcm⟩:=zN (bi s.data.toList j5);rw[hcm]at mV jP f1 f2;obtain⟨okb,j6⟩:=cm;simp only[]at f1 f2;have yu:Hd (∀w',Rd w' R s j5 T->Below B w w'->Calls prog 78 #[.pointer (some ⟨R,0,none⟩)] w' (uV R s T (E 2).1 (E 2).2 (okb,j6) w')):=fun w' a b=>mV w' a b g2
    have mW:Hd (S=jg s.data.toList d (okb,j6)):=jP;clear C5 mV jP qY hcm qX;go_wp2_with (go_at_call 73;refine uA.o.mono ?_);rintro e w5 ⟨rfl,iE,hg5⟩;have iy:Hd (Rd w5 R s j5 T):=iE;have kz:Hd (Below B w w5):=sQ.o.trans (iP hg5 hR qW.o.base);have qZ:Hd (Tr w5 B T d.ns d.own d.now):=qW.o.keepR qV.o hg5;clear iE hg5;go_wp2_with (go_at_call 78;refine(yu.o _ iy.o kz.o).mono ?_);rintro e w6 ⟨q1,q2,q3,q4⟩;have fG:Hd (Rd w6 R s j6 T):=q3;have oK:Hd (Below B w w6):=kz.o.trans (iP q4 hR qZ.o.base);have rq:Hd (Tr w6 B T d.ns d.own d.now):=qZ.o.keepR iy.o q4;clear q3 q4
    cases okb with
    | false =>
     obtain⟨v,rfl,F,rfl,hF⟩:=q2 rfl;have aZ:Hd (aF w6 (.iface 104 (.pointer (some ⟨F,0,none⟩))) E 2 j6):=⟨F,rfl,hF⟩;have aj:Hd (S=.error (2,j6)):=by
      have:=mW.o;unfold jg at this;rw[if_pos rfl]at this;exact this
     clear q1 q2 hF;go_wp2;refine bodyPost_ret (results_tmp (t:=2) rfl _ _ _) rfl ?_;rw[aj.o];exact⟨fun d hh=>(by cases hh),fun c p hh=>(by cases hh;exact⟨F,rfl,aZ.o⟩),oK.o⟩
    | true =>
     obtain rfl:=q1 rfl;have C7:Hd (Calls prog 74 #[.pointer (some ⟨R,0,none⟩)] w6 fun e w'=>e=.returned (.int .i64 (nx s.data.toList j6))/\w6.grownBy w' none):=CN.o j6 w6 fG.o f2;have fA:=mW.o;unfold jg at fA;rw[if_neg (by simp)]at fA;simp only[]at fA;have mX:=CT.o j6 d.ns d.own d.now;obtain⟨MU,iQ⟩:=zN (must s.data.toList j6 10);rw[iQ]at fA mX;obtain⟨y,hy⟩:=zN (nx s.data.toList j6);rw[hy]at fA C7;have ru:Hd (S=_):=fA;have yw:Hd (∀w',Rd w' R s j6 T->Tr w' B T d.ns d.own d.now->Below B w w'->j6<=s.size->Calls prog 79 #[.pointer (some ⟨R,0,none⟩),.int .i64 10] w' (uw B R T s E d.own d.now d.ns MU w')):=mX;clear q1 q2 fA mX iQ hy mW;go_wp2_with (go_at_call 74;refine C7.o.mono ?_);rintro e w7 ⟨rfl,fU⟩;have lw:Hd (Rd w7 R s j6 T):=fG.o.grow fU;have gJ:Hd (Below B w w7):=oK.o.trans (kQ fU rq.o.base)
     have ry:Hd (Tr w7 B T d.ns d.own d.now):=rq.o.gb fU;clear fU
     by_cases cy:y=-1
     ·have ey:(y == -1)=true:=by simp[cy]
      have aj:Hd (S=.ok ⟨j6,d.ns,d.own,d.now⟩):=by
       have:=ru.o;rw[if_pos cy]at this;exact this
      clear cy;go_wp2;refine bodyPost_ret (results_tmp (t:=2) rfl _ _ _) rfl ?_;rw[aj.o];exact⟨fun d hh=>(by cases hh;exact⟨rfl,lw.o,ry.o⟩),fun c p hh=>(by cases hh),gJ.o⟩
     ·have ey:(y == -1)=false:=by simp[cy]
      have aj:Hd (S=match (generalizing:=false) MU with | .error e=>.error e | .ok j=>.ok ⟨j,d.ns,d.own,d.now⟩):=by
       have:=ru.o;rw[if_neg cy]at this;exact this
      clear cy;go_wp2_with (go_at_call 79;refine(yw.o _ lw.o ry.o gJ.o f2).mono ?_);rintro e w8 ⟨t1,t2,t3⟩
      cases MU with
      | error ec =>
       obtain⟨ec1,ec2⟩:=ec;obtain⟨F,rfl,hF⟩:=t2 ec1 ec2 rfl;have aZ:Hd (aF w8 (.iface 104 (.pointer (some ⟨F,0,none⟩))) E ec1 ec2):=hF;have lC:Hd (Below B w w8):=gJ.o.trans t3;have mY:Hd (S=.error (ec1,ec2)):=aj.o;clear t1 t2 t3 hF;go_wp2;refine bodyPost_ret (results_tmp (t:=2) rfl _ _ _) rfl ?_;rw[mY.o];exact⟨fun d hh=>(by cases hh),fun c p hh=>(by cases hh;exact⟨F,rfl,aZ.o⟩),lC.o⟩
      | ok j8 =>
       obtain⟨rfl,mP,rC⟩:=t1 j8 rfl;have mJ:Hd (Rd w8 R s j8 T):=mP;have yx:Hd (Tr w8 B T d.ns d.own d.now):=rC;have lC:Hd (Below B w w8):=gJ.o.trans t3;have mY:Hd (S=.ok ⟨j8,d.ns,d.own,d.now⟩):=aj.o;clear t1 t2 t3 mP rC;go_wp2;refine bodyPost_ret (results_tmp (t:=2) rfl _ _ _) rfl ?_;rw[mY.o];exact⟨fun d hh=>(by cases hh;exact⟨rfl,mJ.o,yx.o⟩),fun c p hh=>(by cases hh),lC.o⟩
  ·have e34:(x == 34)=false:=by simp[c34]
   have fC:Hd (∀w,Calls prog 76 #[.int .i64 x] w fun e w'=>e=.returned (.bool (aV x))/\w'=w):=fun w=>CB.o x w
   obtain⟨bb,hbb⟩:=zN (aV x);rw[hbb]at fC dI;clear hbb CB
   cases bb with
   | true =>
    have qU:Hd (S=zO s.data.toList PR):=by
     have:=dI.o;rw[if_pos (Or.inr rfl)]at this;exact this
    clear c34 dI;go_wp2_with (go_at_call 76;refine(fC.o _).mono ?_);rintro e w' ⟨rfl,rfl⟩;go_wp2_with (go_at_call 77;refine(Ci.o _ HR2.o HT2.o HB2.o).mono ?_);rintro e w3 ⟨p1,p2,p3⟩;have sQ:Hd (Below B w w3):=HB2.o.trans p3
    cases PR with
    | error ec =>
     obtain⟨ec1,ec2⟩:=ec;obtain⟨F,rfl,hF⟩:=p2 ec1 ec2 rfl;have aZ:Hd (aF w3 (.iface 104 (.pointer (some ⟨F,0,none⟩))) E ec1 ec2):=hF;have aj:Hd (S=.error (ec1,ec2)):=qU.o;clear p1 p2 p3 hF;go_wp2;refine bodyPost_ret (results_tmp (t:=2) rfl _ _ _) rfl ?_;rw[aj.o];exact⟨fun d hh=>(by cases hh),fun c p hh=>(by cases hh;exact⟨F,rfl,aZ.o⟩),sQ.o⟩
    | ok d =>
     obtain⟨rfl,hr3,ht3⟩:=p1 d rfl;have hdl:=dF.o d rfl;have qV:Hd (Rd w3 R s d.i T):=hr3;have qW:Hd (Tr w3 B T d.ns d.own d.now):=ht3;have qX:Hd (S=jg s.data.toList d (bi s.data.toList (bl s.data.toList d.i))):=qU.o;clear p1 p2 p3 hr3 ht3 qU;obtain⟨g1,g2⟩:=fP.o d.i hdl;have C5:=CS.o d.i w3 qV.o hdl;have jP:=qX.o;obtain⟨j5,qY⟩:=zN (bl s.data.toList d.i);rw[qY]at C5 g1 g2 jP;have uA:Hd (Calls prog 73 #[.pointer (some ⟨R,0,none⟩)] w3 fun e wz=>e=.returned (.tuple #[])/\Rd wz R s j5 T/\w3.grownBy wz (some R)):=C5;obtain⟨f1,f2⟩:=HCM.o j5 g2;have mV:=CC.o j5;obtain⟨cm,hcm⟩:=zN (bi s.data.toList j5);rw[hcm]at mV jP f1 f2;obtain⟨okb,j6⟩:=cm;simp only[]at f1 f2;have yu:Hd (∀w',Rd w' R s j5 T->Below B w w'->Calls prog 78 #[.pointer (some ⟨R,0,none⟩)] w' (uV R s T (E 2).1 (E 2).2 (okb,j6) w')):=fun w' a b=>mV w' a b g2
     have mW:Hd (S=jg s.data.toList d (okb,j6)):=jP;clear C5 mV jP qY hcm qX;go_wp2_with (go_at_call 73;refine uA.o.mono ?_);rintro e w5 ⟨rfl,iE,hg5⟩;have iy:Hd (Rd w5 R s j5 T):=iE;have kz:Hd (Below B w w5):=sQ.o.trans (iP hg5 hR qW.o.base);have qZ:Hd (Tr w5 B T d.ns d.own d.now):=qW.o.keepR qV.o hg5;clear iE hg5;go_wp2_with (go_at_call 78;refine(yu.o _ iy.o kz.o).mono ?_);rintro e w6 ⟨q1,q2,q3,q4⟩;have fG:Hd (Rd w6 R s j6 T):=q3;have oK:Hd (Below B w w6):=kz.o.trans (iP q4 hR qZ.o.base);have rq:Hd (Tr w6 B T d.ns d.own d.now):=qZ.o.keepR iy.o q4;clear q3 q4
     cases okb with
     | false =>
      obtain⟨v,rfl,F,rfl,hF⟩:=q2 rfl;have aZ:Hd (aF w6 (.iface 104 (.pointer (some ⟨F,0,none⟩))) E 2 j6):=⟨F,rfl,hF⟩;have aj:Hd (S=.error (2,j6)):=by
       have:=mW.o;unfold jg at this;rw[if_pos rfl]at this;exact this
      clear q1 q2 hF;go_wp2;refine bodyPost_ret (results_tmp (t:=2) rfl _ _ _) rfl ?_;rw[aj.o];exact⟨fun d hh=>(by cases hh),fun c p hh=>(by cases hh;exact⟨F,rfl,aZ.o⟩),oK.o⟩
     | true =>
      obtain rfl:=q1 rfl;have C7:Hd (Calls prog 74 #[.pointer (some ⟨R,0,none⟩)] w6 fun e w'=>e=.returned (.int .i64 (nx s.data.toList j6))/\w6.grownBy w' none):=CN.o j6 w6 fG.o f2;have fA:=mW.o;unfold jg at fA;rw[if_neg (by simp)]at fA;simp only[]at fA;have mX:=CT.o j6 d.ns d.own d.now;obtain⟨MU,iQ⟩:=zN (must s.data.toList j6 10);rw[iQ]at fA mX;obtain⟨y,hy⟩:=zN (nx s.data.toList j6);rw[hy]at fA C7;have ru:Hd (S=_):=fA;have yw:Hd (∀w',Rd w' R s j6 T->Tr w' B T d.ns d.own d.now->Below B w w'->j6<=s.size->Calls prog 79 #[.pointer (some ⟨R,0,none⟩),.int .i64 10] w' (uw B R T s E d.own d.now d.ns MU w')):=mX;clear q1 q2 fA mX iQ hy mW;go_wp2_with (go_at_call 74;refine C7.o.mono ?_);rintro e w7 ⟨rfl,fU⟩;have lw:Hd (Rd w7 R s j6 T):=fG.o.grow fU;have gJ:Hd (Below B w w7):=oK.o.trans (kQ fU rq.o.base)
      have ry:Hd (Tr w7 B T d.ns d.own d.now):=rq.o.gb fU;clear fU
      by_cases cy:y=-1
      ·have ey:(y == -1)=true:=by simp[cy]
       have aj:Hd (S=.ok ⟨j6,d.ns,d.own,d.now⟩):=by
        have:=ru.o;rw[if_pos cy]at this;exact this
       clear cy;go_wp2;refine bodyPost_ret (results_tmp (t:=2) rfl _ _ _) rfl ?_;rw[aj.o];exact⟨fun d hh=>(by cases hh;exact⟨rfl,lw.o,ry.o⟩),fun c p hh=>(by cases hh),gJ.o⟩
      ·have ey:(y == -1)=false:=by simp[cy]
       have aj:Hd (S=match (generalizing:=false) MU with | .error e=>.error e | .ok j=>.ok ⟨j,d.ns,d.own,d.now⟩):=by
        have:=ru.o;rw[if_neg cy]at this;exact this
       clear cy;go_wp2_with (go_at_call 79;refine(yw.o _ lw.o ry.o gJ.o f2).mono ?_);rintro e w8 ⟨t1,t2,t3⟩
       cases MU with
       | error ec =>
        obtain⟨ec1,ec2⟩:=ec;obtain⟨F,rfl,hF⟩:=t2 ec1 ec2 rfl;have aZ:Hd (aF w8 (.iface 104 (.pointer (some ⟨F,0,none⟩))) E ec1 ec2):=hF;have lC:Hd (Below B w w8):=gJ.o.trans t3;have mY:Hd (S=.error (ec1,ec2)):=aj.o;clear t1 t2 t3 hF;go_wp2;refine bodyPost_ret (results_tmp (t:=2) rfl _ _ _) rfl ?_;rw[mY.o];exact⟨fun d hh=>(by cases hh),fun c p hh=>(by cases hh;exact⟨F,rfl,aZ.o⟩),lC.o⟩
       | ok j8 =>
        obtain⟨rfl,mP,rC⟩:=t1 j8 rfl;have mJ:Hd (Rd w8 R s j8 T):=mP;have yx:Hd (Tr w8 B T d.ns d.own d.now):=rC;have lC:Hd (Below B w w8):=gJ.o.trans t3;have mY:Hd (S=.ok ⟨j8,d.ns,d.own,d.now⟩):=aj.o;clear t1 t2 t3 mP rC;go_wp2;refine bodyPost_ret (results_tmp (t:=2) rfl _ _ _) rfl ?_;rw[mY.o];exact⟨fun d hh=>(by cases hh;exact⟨rfl,mJ.o,yx.o⟩),fun c p hh=>(by cases hh),lC.o⟩
   | false =>
    have SE:Hd (S=jg s.data.toList ⟨j,ns,own,now⟩ (bi s.data.toList (bl s.data.toList j))):=by
     have:=dI.o;rw[if_neg (by rintro(h|h);exact c34 h;cases h)]at this;exact this
    clear c34 dI Ci dF;go_wp2_with (go_at_call 76;refine(fC.o _).mono ?_);rintro e w' ⟨rfl,rfl⟩;obtain⟨d,hd⟩:∃d:Sd,d=⟨j,ns,own,now⟩:=⟨_,rfl⟩;have qV:Hd (Rd w' R s d.i T):=by rw[hd];exact HR2.o
    have qW:Hd (Tr w' B T d.ns d.own d.now):=by rw[hd];exact HT2.o
    have hdl:d.i<=s.size:=by rw[hd];exact b2
    have qX:Hd (S=jg s.data.toList d (bi s.data.toList (bl s.data.toList d.i))):=by rw[hd];exact SE.o
    have sQ:Hd (Below B w w'):=HB2.o;clear hd SE;obtain⟨g1,g2⟩:=fP.o d.i hdl;have C5:=CS.o d.i w' qV.o hdl;have jP:=qX.o;obtain⟨j5,qY⟩:=zN (bl s.data.toList d.i);rw[qY]at C5 g1 g2 jP;have uA:Hd (Calls prog 73 #[.pointer (some ⟨R,0,none⟩)] w' fun e wz=>e=.returned (.tuple #[])/\Rd wz R s j5 T/\w'.grownBy wz (some R)):=C5;obtain⟨f1,f2⟩:=HCM.o j5 g2;have mV:=CC.o j5;obtain⟨cm,hcm⟩:=zN (bi s.data.toList j5);rw[hcm]at mV jP f1 f2;obtain⟨okb,j6⟩:=cm;simp only[]at f1 f2;have yu:Hd (∀w',Rd w' R s j5 T->Below B w w'->Calls prog 78 #[.pointer (some ⟨R,0,none⟩)] w' (uV R s T (E 2).1 (E 2).2 (okb,j6) w')):=fun w' a b=>mV w' a b g2
    have mW:Hd (S=jg s.data.toList d (okb,j6)):=jP;clear C5 mV jP qY hcm qX;go_wp2_with (go_at_call 73;refine uA.o.mono ?_);rintro e w5 ⟨rfl,iE,hg5⟩;have iy:Hd (Rd w5 R s j5 T):=iE;have kz:Hd (Below B w w5):=sQ.o.trans (iP hg5 hR qW.o.base);have qZ:Hd (Tr w5 B T d.ns d.own d.now):=qW.o.keepR qV.o hg5;clear iE hg5;go_wp2_with (go_at_call 78;refine(yu.o _ iy.o kz.o).mono ?_);rintro e w6 ⟨q1,q2,q3,q4⟩;have fG:Hd (Rd w6 R s j6 T):=q3;have oK:Hd (Below B w w6):=kz.o.trans (iP q4 hR qZ.o.base);have rq:Hd (Tr w6 B T d.ns d.own d.now):=qZ.o.keepR iy.o q4;clear q3 q4
    cases okb with
    | false =>
     obtain⟨v,rfl,F,rfl,hF⟩:=q2 rfl;have aZ:Hd (aF w6 (.iface 104 (.pointer (some ⟨F,0,none⟩))) E 2 j6):=⟨F,rfl,hF⟩;have aj:Hd (S=.error (2,j6)):=by
      have:=mW.o;unfold jg at this;rw[if_pos rfl]at this;exact this
     clear q1 q2 hF;go_wp2;refine bodyPost_ret (results_tmp (t:=2) rfl _ _ _) rfl ?_;rw[aj.o];exact⟨fun d hh=>(by cases hh),fun c p hh=>(by cases hh;exact⟨F,rfl,aZ.o⟩),oK.o⟩
    | true =>
     obtain rfl:=q1 rfl;have C7:Hd (Calls prog 74 #[.pointer (some ⟨R,0,none⟩)] w6 fun e w'=>e=.returned (.int .i64 (nx s.data.toList j6))/\w6.grownBy w' none):=CN.o j6 w6 fG.o f2;have fA:=mW.o;unfold jg at fA;rw[if_neg (by simp)]at fA;simp only[]at fA;have mX:=CT.o j6 d.ns d.own d.now;obtain⟨MU,iQ⟩:=zN (must s.data.toList j6 10);rw[iQ]at fA mX;obtain⟨y,hy⟩:=zN (nx s.data.toList j6);rw[hy]at fA C7;have ru:Hd (S=_):=fA;have yw:Hd (∀w',Rd w' R s j6 T->Tr w' B T d.ns d.own d.now->Below B w w'->j6<=s.size->Calls prog 79 #[.pointer (some ⟨R,0,none⟩),.int .i64 10] w' (uw B R T s E d.own d.now d.ns MU w')):=mX;clear q1 q2 fA mX iQ hy mW;go_wp2_with (go_at_call 74;refine C7.o.mono ?_);rintro e w7 ⟨rfl,fU⟩;have lw:Hd (Rd w7 R s j6 T):=fG.o.grow fU;have gJ:Hd (Below B w w7):=oK.o.trans (kQ fU rq.o.base)
     have ry:Hd (Tr w7 B T d.ns d.own d.now):=rq.o.gb fU;clear fU
     by_cases cy:y=-1
     ·have ey:(y == -1)=true:=by simp[cy]
      have aj:Hd (S=.ok ⟨j6,d.ns,d.own,d.now⟩):=by
       have:=ru.o;rw[if_pos cy]at this;exact this
      clear cy;go_wp2;refine bodyPost_ret (results_tmp (t:=2) rfl _ _ _) rfl ?_;rw[aj.o];exact⟨fun d hh=>(by cases hh;exact⟨rfl,lw.o,ry.o⟩),fun c p hh=>(by cases hh),gJ.o⟩
     ·have ey:(y == -1)=false:=by simp[cy]
      have aj:Hd (S=match (generalizing:=false) MU with | .error e=>.error e | .ok j=>.ok ⟨j,d.ns,d.own,d.now⟩):=by
       have:=ru.o;rw[if_neg cy]at this;exact this
      clear cy;go_wp2_with (go_at_call 79;refine(yw.o _ lw.o ry.o gJ.o f2).mono ?_);rintro e w8 ⟨t1,t2,t3⟩
      cases MU with
      | error ec =>
       obtain⟨ec1,ec2⟩:=ec;obtain⟨F,rfl,hF⟩:=t2 ec1 ec2 rfl;have aZ:Hd (aF w8 (.iface 104 (.pointer (some ⟨F,0,none⟩))) E ec1 ec2):=hF;have lC:Hd (Below B w w8):=gJ.o.trans t3;have mY:Hd (S=.error (ec1,ec2)):=aj.o;clear t1 t2 t3 hF;go_wp2;refine bodyPost_ret (results_tmp (t:=2) rfl _ _ _) rfl ?_;rw[mY.o];exact⟨fun d hh=>(by cases hh),fun c p hh=>(by cases hh;exact⟨F,rfl,aZ.o⟩),lC.o⟩
      | ok j8 =>
       obtain⟨rfl,mP,rC⟩:=t1 j8 rfl;have mJ:Hd (Rd w8 R s j8 T):=mP;have yx:Hd (Tr w8 B T d.ns d.own d.now):=rC;have lC:Hd (Below B w w8):=gJ.o.trans t3;have mY:Hd (S=.ok ⟨j8,d.ns,d.own,d.now⟩):=aj.o;clear t1 t2 t3 mP rC;go_wp2;refine bodyPost_ret (results_tmp (t:=2) rfl _ _ _) rfl ?_;rw[mY.o];exact⟨fun d hh=>(by cases hh;exact⟨rfl,mJ.o,yx.o⟩),fun c p hh=>(by cases hh),lC.o⟩
open Go.RowKit Go.Joins
theorem GK{l:List UInt8}{d:Sd}(L:Li l d)(j:Nat)(h1:d.i<=j)(h2:j<=l.length):Li l ⟨j,d.ns,d.own,d.now⟩ :=
 ⟨L.jt,L.rt,h2,by have:=L.nn;simp only[];omega,by have:=L.on;simp only[];omega⟩
theorem KA(l:List UInt8)(d d':Sd)(L:Li l d)(hi:d.i<l.length)(h:jI l d=.ok d'):Li l d'/\d.i<d'.i:=by
 obtain⟨i,ns,own,now⟩:=d;simp only[]at hi;rw[zQ]at h;have b1:=lh l i (by omega);have L':Li l ⟨bl l i,ns,own,now⟩:=GK L (bl l i) b1.1 b1.2;have mid:∀d1,(if nx l (bl l i)=91 then jS l ⟨bl l i,ns,own,now⟩ else if nx l (bl l i)=34\/aV (nx l (bl l i))=true then rdPair l ⟨bl l i,ns,own,now⟩ else .ok ⟨bl l i,ns,own,now⟩)=.ok d1->Li l d1/\bl l i<=d1.i:=fun d1 hh=>by
  split at hh
  ·rename_i hx;obtain⟨a,b⟩:=Kz l _ d1 L' (cZ (l:=l) (i:=bl l i) (by rw[hx];decide)) hh;exact⟨a,Nat.le_of_lt b⟩
  ·split at hh
   ·obtain⟨a,b⟩:=Ky l _ d1 L' hh;exact⟨a,Nat.le_of_lt b⟩
   ·cases hh
    exact⟨L',Nat.le_refl _⟩
 cases hm:(if nx l (bl l i)=91 then jS l ⟨bl l i,ns,own,now⟩ else if nx l (bl l i)=34\/aV (nx l (bl l i))=true then rdPair l ⟨bl l i,ns,own,now⟩ else .ok ⟨bl l i,ns,own,now⟩) with
 | error e=>rw[hm]at h;cases h
 | ok d1 =>
  rw[hm]at h;obtain⟨L1,h1⟩:=mid d1 hm;have h2:jg l d1 (bi l (bl l d1.i))=.ok d':=h;have b2:=lh l d1.i L1.le;have c2:=AX l (bl l d1.i) b2.2;unfold jg at h2;split at h2
  ·cases h2
  ·split at h2
   ·rename_i hx;have:=P8 hx
    cases h2
    exact⟨GK L1 _ (by omega) c2.2,by simp only[];omega⟩
   ·cases hq:must l (bi l (bl l d1.i)).2 10 with
    | error e=>rw[hq]at h2;cases h2
    | ok q =>
     rw[hq]at h2;obtain⟨m1,m2⟩:=vV l _ _ 10 (by decide) hq
     cases h2
     exact⟨GK L1 q (by omega) (by omega),by simp only[];omega⟩
theorem GL(l:List UInt8):Li l ⟨0,[⟨0,[],[],0,[],0⟩],[],0⟩:=by
 have hk:∀p,ax [(⟨0,[],[],0,[],0⟩:Tn)] p=[]:=fun p=>by
  unfold ax
  cases p with
  | zero=>rfl
  | succ p=>rfl
 refine⟨⟨⟨fun p p' q h=>?_,fun p q h=>?_,fun q h=>?_,fun p=>?_⟩,fun q hq=>?_,by simp,rfl⟩,rfl,Nat.zero_le _,by simp,by simp⟩
 ·rw[hk]at h;cases h
 ·rw[hk]at h;cases h
 ·cases h
 ·rw[hk];simp
 ·exfalso;unfold ag at hq
  cases q with
  | zero=>exact absurd (show(0:Int)=2 from hq) (by decide)
  | succ q=>exact absurd (show(-1:Int)=2 from hq) (by decide)
open Go.RowKit Go.Maps Go.WideMaps Go.Joins
theorem abh:hold [(⟨0,[],[],0,[],0⟩:Tn)] []=fun _ _=>none:=by
 funext t k;unfold hold;have:aG [(⟨0,[],[],0,[],0⟩:Tn)] t k=none:=by
  rw[uh];unfold ax
  cases t with
  | zero=>rfl
  | succ t=>rfl
 rw[this];split<;>rfl
theorem abj(w:World):Tr (((w.alloc (.cells #[.int .i64 0,.string ⟨#[]⟩,.string ⟨#[]⟩,.int .i64 0,.slice none 0 0,.int .i64 0] 90)).alloc (.map #[] 0)).alloc (.cells #[.slice (some ⟨w.heap.size,0,none⟩) 1 1,.map (some (w.heap.size+1)),.int .i64 0] 103)) w.heap.size (w.heap.size+2) [⟨0,[],[],0,[],0⟩] [] 0:=by
 obtain⟨w1,hw1⟩:=zN (w.alloc (.cells #[.int .i64 0,.string ⟨#[]⟩,.string ⟨#[]⟩,.int .i64 0,.slice none 0 0,.int .i64 0] 90));have n1:=heap_alloc_new w (.cells #[.int .i64 0,.string ⟨#[]⟩,.string ⟨#[]⟩,.int .i64 0,.slice none 0 0,.int .i64 0] 90);have s1:(w.alloc (.cells #[.int .i64 0,.string ⟨#[]⟩,.string ⟨#[]⟩,.int .i64 0,.slice none 0 0,.int .i64 0] 90)).heap.size=w.heap.size+1:=World.size_alloc _ _;rw[hw1]at n1 s1 ⊢;have m2:=HM.made w1;have g2:w1.grownBy (w1.alloc (.map #[] 0)) none:=World.grownBy_alloc _ _ _;have s2:(w1.alloc (.map #[] 0)).heap.size=w.heap.size+2:=by rw[World.size_alloc,s1]
 rw[s1]at m2;obtain⟨w2,hw2⟩:=zN (w1.alloc (.map #[] 0));rw[hw2]at m2 g2 s2 ⊢;have n3:=heap_alloc_new w2 (.cells #[.slice (some ⟨w.heap.size,0,none⟩) 1 1,.map (some (w.heap.size+1)),.int .i64 0] 103);have g3:w2.grownBy (w2.alloc (.cells #[.slice (some ⟨w.heap.size,0,none⟩) 1 1,.map (some (w.heap.size+1)),.int .i64 0] 103)) none:=World.grownBy_alloc _ _ _;rw[s2]at n3;have n1':=jl (jl n1 g2) g3;obtain⟨es,cc,hm⟩:=m2.map;refine⟨w.heap.size,1,w.heap.size+1,[.int .i64 0,.string ⟨#[]⟩,.string ⟨#[]⟩,.int .i64 0,.slice none 0 0,.int .i64 0],fun _=>.slice none 0 0,?_⟩;refine⟨n3,by omega,⟨rfl,Or.inr ⟨w.heap.size,1,_,rfl,Nat.le_refl _,n1',Nat.le_refl _,by unfold maxLen;omega,rfl,rfl⟩⟩,fun i hi=>?_,fun i hi=>?_,fun i j g hi hj h1 _=>?_,?_,by omega⟩
 ·have:i=0:=by simp at hi;omega
  subst this;exact⟨rfl,rfl,rfl,rfl,rfl,rfl⟩
 ·have:i=0:=by simp at hi;omega
  subst this;exact⟨rfl,Or.inl ⟨rfl,rfl⟩⟩
 ·cases h1
 ·rw[abh];exact(m2.mono (by simp)).block (g3.block _ (aA hm) (by simp))
theorem abk(w:World):(Instr.makeMap 101 none).run prog w=.ok (.map (some w.heap.size)) (w.alloc (.map #[] 0)):=by kernel_rfl
theorem abl(w:World):Calls prog 47 #[] w fun e w'=>e=.returned (.pointer (some ⟨w.heap.size+2,0,none⟩))/\Tr w' w.heap.size (w.heap.size+2) [⟨0,[],[],0,[],0⟩] [] 0/\w.grownBy w' none:=by
 have HT:Hd (Tr (((w.alloc (.cells #[.int .i64 0,.string ⟨#[]⟩,.string ⟨#[]⟩,.int .i64 0,.slice none 0 0,.int .i64 0] 90)).alloc (.map #[] 0)).alloc (.cells #[.slice (some ⟨w.heap.size,0,none⟩) 1 1,.map (some (w.heap.size+1)),.int .i64 0] 103)) w.heap.size (w.heap.size+2) [⟨0,[],[],0,[],0⟩] [] 0):=abj w;have hmk:=abk (w.alloc (.cells #[.int .i64 0,.string ⟨#[]⟩,.string ⟨#[]⟩,.int .i64 0,.slice none 0 0,.int .i64 0] 90));rw[World.size_alloc]at hmk;go_enter func47,ntmps47;go_wp2;go_ret;exact⟨rfl,HT.o,af (af (World.grownBy_alloc _ _ none) (World.grownBy_alloc _ _ none)) (World.grownBy_alloc _ _ none)⟩
open Go.RowKit Go.Maps Go.WideMaps Go.Joins
def KC(s:ByteArray)(E:Int->TypeId × Value)(r:Rs (List Tn))(w:World)(e:Ending)(w':World):Prop :=
 (∀ns,r=.ok ns->∃N c M T xs ks now n f,e=.returned (.tuple #[.slice (some ⟨N,0,none⟩) ns.length c,.nilIface])/\TrD w' w.heap.size T ns now N c M xs ks n f) ∧
 (∀c p,r=.error (c,p)->∃v,e=.returned (.tuple #[.slice none 0 0,v])/\((c=1/\v=.iface (E 1).1 (E 1).2)\/aF w' v E c p))/\w.grownBy w' none
theorem Cm(l:List UInt8)(f:Nat)(d:Sd):jW l (f+1) d=if l.length<=d.i then .ok d else match jI l d with | .error e=>.error e | .ok d1=>jW l f d1:=rfl
theorem KE{w w':World}(h:Below w.heap.size w w'):w.grownBy w' none:=⟨h.os,h.tape,h.output,h.size,fun k hk _=>h.block k hk⟩
def abm:Rs Sd->Rs (List Tn)
 | .error e=>.error e
 | .ok d=>.ok d.ns
theorem GM(l:List UInt8):jf l=if 100000<l.length then .error (1,0) else abm (jW l (l.length+1) ⟨0,[⟨0,[],[],0,[],0⟩],[],0⟩):=by
 unfold jf;split
 ·rfl
 ·cases jW l (l.length+1) ⟨0,[⟨0,[],[],0,[],0⟩],[],0⟩<;>rfl
theorem SG(s:ByteArray)(E:Int->TypeId × Value)(w:World)(G:Gl w w.heap.size E)(hlo:w.cell? ⟨0,0,none⟩=some (.iface (E 1).1 (E 1).2))(hmx:s.size<2 ^ 62) :
  Calls prog 18 #[.string s] w (KC s E (jf s.data.toList) w):=by
 have hl:s.data.toList.length=s.size:=by simp
 have KF:Hd (Calls prog 47 #[] w fun e w'=>e=.returned (.pointer (some ⟨w.heap.size+2,0,none⟩))/\Tr w' w.heap.size (w.heap.size+2) [⟨0,[],[],0,[],0⟩] [] 0/\w.grownBy w' none):=abl w;have HE:=GM s.data.toList;rw[hl]at HE
 by_cases hbig:100000<s.size
 ·rw[if_pos hbig]at HE;rw[HE];have hb:(100000:Int)<(s.size:Int):=by omega
  have HR1:Hd (∀ty pv,(E 1).1=ty->(E 1).2=pv->True):=fun _ _ _ _=>trivial
  obtain⟨ty,hty⟩:=zN ((E 1).1);obtain⟨pv,hpv⟩:=zN ((E 1).2);have SH:Hd ((E 1).1=ty/\(E 1).2=pv):=⟨hty,hpv⟩;rw[hty,hpv]at hlo;clear HE KF G hty hpv HR1 hbig;go_enter func18,ntmps18;go_wp2;go_quiet (fail);go_wp2;refine bodyPost_ret (results_tmp2 (t:=2) (u:=3) rfl _ _ _) rfl ?_;exact⟨fun ns hh=>(by cases hh),fun c p hh=>(by cases hh;exact⟨_,rfl,Or.inl ⟨rfl,by rw[SH.o.1,SH.o.2];rfl⟩⟩),au (ai w none) _⟩
 ·rw[if_neg hbig]at HE;rw[HE];have hb:(s.size:Int)<=100000:=by omega
  have hs:s.size<=100000:=by omega
  obtain⟨B,sS⟩:=zN (w.heap.size);have CL:Hd (∀R T d wr,Rd wr R s d.i T->Tr wr B T d.ns d.own d.now->B<=R->Below B w wr->Li s.data.toList d->Calls prog 48 #[.pointer (some ⟨R,0,none⟩)] wr (lT B R T s E (jI s.data.toList d) wr)):=fun R T d wr h1 h2 h3 h4 h5=>abe B R T s E d.own d.now d.i d.ns wr h1 h2 ((sS ▸ G).bel h4) h3 hs h5
  have HLO:Hd (∀d d',Li s.data.toList d->d.i<s.size->jI s.data.toList d=.ok d'->Li s.data.toList d'/\d.i<d'.i):=fun d d' a b c=>KA s.data.toList d d' a (by omega) c
  obtain⟨S,hS⟩:=zN (jW s.data.toList (s.data.toList.length+1) ⟨0,[⟨0,[],[],0,[],0⟩],[],0⟩);have HS:Hd (jW s.data.toList (s.data.toList.length+1) ⟨0,[⟨0,[],[],0,[],0⟩],[],0⟩=S):=hS;rw[<-hl,hS];have dN:Hd (w.heap.size=B):=sS;rw[sS]at KF;clear HE hbig hS G hlo sS;go_enter func18,ntmps18;go_wp2_with (go_at_call 47;refine KF.o.mono ?_);rintro e w1 ⟨rfl,ht1,hg1⟩;obtain⟨R,hRe⟩:=zN (w1.heap.size);have hBR:B<=R:=by have:=hg1.size;have:=dN.o;omega
  have hn:=heap_alloc_new w1 (.cells #[.string s,.int .i64 0,.pointer (some ⟨B+2,0,none⟩)] 99);rw[hRe]at hn;have hgR:=World.grownBy_alloc w1 (.cells #[.string s,.int .i64 0,.pointer (some ⟨B+2,0,none⟩)] 99) none;obtain⟨w2,hw2⟩:=zN (w1.alloc (.cells #[.string s,.int .i64 0,.pointer (some ⟨B+2,0,none⟩)] 99));rw[hw2]at hn hgR;have HR2:Hd (Rd w2 R s 0 (B+2)):=hn;have HT2:Hd (Tr w2 B (B+2) [⟨0,[],[],0,[],0⟩] [] 0):=ht1.gb hgR;have HB2:Hd (Below B w w2):=kQ (af hg1 hgR) (by have:=dN.o;omega);clear hn hgR ht1 hg1;go_wp2;go_loopw [2,3] (fun v2 v3 wr=>v2=.slice none 0 0/\v3=.nilIface/\∃(d:Sd) (f:Nat),Rd wr R s d.i (B+2)/\Tr wr B (B+2) d.ns d.own d.now/\Li s.data.toList d/\Below B w wr/\jW s.data.toList f d=S/\s.size-d.i<f) (fun _ _ wr=>s.size-(match wr.cell? ⟨R,1,none⟩ with|some (.int _ k)=>k.toNat|_=>0))
  case atStart=>exact⟨rfl,rfl,⟨0,[⟨0,[],[],0,[],0⟩],[],0⟩,s.data.toList.length+1,HR2.o,HT2.o,GL _,HB2.o,HS.o,by simp⟩
  case round =>
   obtain⟨rfl,rfl,d,f,hrd,htr,CO,hbe,hra,hf⟩:=hrel;obtain⟨f,rfl⟩:∃f',f=f'+1:=⟨f-1,by omega⟩;rw[Cm,hl]at hra;have hdl:d.i<=s.size:=by have:=CO.le;omega
   have jJ:Hd (Rd wr R s d.i (B+2)):=hrd;have iG:Hd (Tr wr B (B+2) d.ns d.own d.now):=htr;have HLK:Hd (Li s.data.toList d):=CO;have jC:Hd (Below B w wr):=hbe;have jB:Hd ((match wr.cell? ⟨R,1,none⟩ with|some (.int _ k)=>k.toNat|_=>0)=d.i):=by show _=_;rw[hrd.cells.2.1];simp
   obtain⟨c0,c1,c2,-⟩:=hrd.cells;obtain⟨k,hk⟩:=zN (d.i);rw[hk]at c1 hdl hf;have HKK:Hd (d.i=k):=hk
   by_cases hlt:k<s.size
   ·have hlt':(k:Int)<(s.size:Int):=by omega
    rw[if_neg (by omega)]at hra;have qN:=CL.o R (B+2) d wr hrd htr hBR hbe CO;have qH:=HLO.o d;obtain⟨LR,SK⟩:=zN (jI s.data.toList d);rw[SK]at qN qH hra;have Gu:Hd (Calls prog 48 #[.pointer (some ⟨R,0,none⟩)] wr (lT B R (B+2) s E LR wr)):=qN;have HL2:Hd (∀d',Li s.data.toList d->d.i<s.size->LR=.ok d'->Li s.data.toList d'/\d.i<d'.i):=qH;have vM:Hd (_=S):=hra;clear hrd htr CO hbe hra qN qH SK hk;go_wp2_with (go_at_call 48;refine Gu.o.mono ?_);rintro e w3 ⟨p1,p2,p3⟩;have HB3:Hd (Below B w w3):=jC.o.trans p3
    cases LR with
    | error ec =>
     obtain⟨ec1,ec2⟩:=ec;obtain⟨F,rfl,hF⟩:=p2 ec1 ec2 rfl;have aZ:Hd (aF w3 (.iface 104 (.pointer (some ⟨F,0,none⟩))) E ec1 ec2):=hF;have aj:Hd (S=.error (ec1,ec2)):=vM.o.symm;clear p1 p2 p3 hF c0 c1 c2;go_wp2;refine bodyPost_ret (results_tmp2 (t:=2) (u:=3) rfl _ _ _) rfl ?_;rw[aj.o];exact⟨fun ns hh=>(by cases hh),fun c p hh=>(by cases hh;exact⟨_,rfl,Or.inr aZ.o⟩),KE (by rw[dN.o];exact HB3.o)⟩
    | ok d1 =>
     obtain⟨rfl,hr3,ht3⟩:=p1 d1 rfl;have hkd:d.i<s.size:=by rw[HKK.o];exact hlt
     obtain⟨SN,hgo⟩:=HL2.o d1 HLK.o hkd rfl;have HR3:Hd (Rd w3 R s d1.i (B+2)):=hr3;have HT3:Hd (Tr w3 B (B+2) d1.ns d1.own d1.now):=ht3;have oJ:Hd (Li s.data.toList d1):=SN;have aj:Hd (jW s.data.toList f d1=S):=vM.o;have BM:Hd (d.i<d1.i):=hgo;clear p1 p2 p3 hr3 ht3 SN hgo c0 c1 c2;go_wp2;go_roundw
     case rel=>exact⟨rfl,rfl,d1,f,HR3.o,HT3.o,oJ.o,HB3.o,aj.o,by have h1:=BM.o;have h2:=HKK.o;have h3:=oJ.o.le;omega⟩
     case measure =>
      rw[jB.o,HR3.o.cells.2.1];have h1:=BM.o;have h2:=HKK.o;simp;omega
   ·have hkl:¬(k:Int)<(s.size:Int):=by omega
    rw[if_pos (by omega)]at hra;have aj:Hd (S=.ok d):=hra.symm;have abn:=htr;obtain⟨N,c,M,xs,ks,hD⟩:=abn;have t0:=hD.cells.1;have HD:Hd (TrD wr B (B+2) d.ns d.now N c M xs ks (d.ns.length+d.own.length) (hold d.ns d.own)):=hD;clear hrd htr CO hbe hra hk hD;go_wp2;refine bodyPost_ret (results_tmp2 (t:=2) (u:=3) rfl _ _ _) rfl ?_;rw[aj.o];exact⟨fun ns hh=>(by cases hh;exact⟨N,c,M,B+2,xs,ks,d.now,_,_,rfl,by rw[dN.o];exact HD.o⟩),fun c p hh=>(by cases hh),KE (by rw[dN.o];exact jC.o)⟩
open Go.RowKit Go.Maps Go.WideMaps Go.Joins
def NuS(w:World)(v:Value)(l:List Nat):Prop:=∃o c,v=.slice o l.length c/\∀i (hi:i<l.length),∃g,o=some ⟨g,0,none⟩/\w.cell? ⟨g,i,none⟩=some (.int .i64 (l[i]:Nat))
theorem NuS.of{w:World}{B:Nat}{v:Value}{l:List Nat}(h:w.ownsRow B 3 1 v l.length (l.map fun q=>.int .i64 (q:Nat))):NuS w v l:=by
 obtain⟨o,c,hv⟩:=ku h;refine⟨o,c,hv,fun i hi=>?_⟩;rw[hv]at h
 rcases h.2 with⟨e1,e2⟩|⟨g,cap,cur,e1,_⟩
 ·omega
 ·injection e1 with e1 _ _
  refine⟨g,e1,?_⟩;have:=h.cells (g:=g) (by rw[e1];rfl) i (.int .i64 (l[i]:Nat)) (by rw[List.getElem?_map,List.getElem?_eq_getElem hi];rfl);rw[sD]at this;exact this
def NoS(w:World)(v:Value)(ns:List Tn):Prop:=∃o c,v=.slice o ns.length c/\∀i (hi:i<ns.length),∃g k,o=some ⟨g,0,none⟩/\w.cell? ⟨g,i*6,none⟩=some (.int .i64 ns[i].kd)/\w.cell? ⟨g,i*6+1,none⟩=some (.string ⟨ns[i].ky.toArray⟩)/\w.cell? ⟨g,i*6+2,none⟩=some (.string ⟨ns[i].tx.toArray⟩)/\w.cell? ⟨g,i*6+3,none⟩=some (.int .i64 ns[i].nu)/\w.cell? ⟨g,i*6+4,none⟩=some k/\w.cell? ⟨g,i*6+5,none⟩=some (.int .i64 (ns[i].pl:Nat))/\NuS w k ns[i].ks
theorem NuS.grow{w w':World}{v:Value}{l:List Nat}(h:NuS w v l)(hg:w.grownBy w' none):NuS w' v l:=by
 obtain⟨o,c,hv,hc⟩:=h;refine⟨o,c,hv,fun i hi=>?_⟩;obtain⟨g,h1,h2⟩:=hc i hi;exact⟨g,h1,hg.cell h2 (by simp)⟩
theorem NoS.grow{w w':World}{v:Value}{ns:List Tn}(h:NoS w v ns)(hg:w.grownBy w' none):NoS w' v ns:=by
 obtain⟨o,c,hv,hc⟩:=h;refine⟨o,c,hv,fun i hi=>?_⟩;obtain⟨g,k,e,h0,h1,h2,h3,h4,h5,h6⟩:=hc i hi;exact⟨g,k,e,hg.cell h0 (by simp),hg.cell h1 (by simp),hg.cell h2 (by simp),hg.cell h3 (by simp),hg.cell h4 (by simp),hg.cell h5 (by simp),h6.grow hg⟩
end Go.Proofs.YtmkjelchiacogaaGreatDoor
namespace Go.Proofs
open Go.Shelf
def Tryz.laysSort_ren:Go.Shelf.Ren:=⟨fun|6=>129|14=>171|15=>101|20=>207|21=>208|22=>209|23=>210|24=>211|25=>212|26=>213|27=>214|28=>147|29=>148|46=>231|47=>180|48=>181|49=>232|50=>233|57=>249|n=>n,fun|22=>88|23=>217|24=>3|25=>218|26=>219|27=>88|28=>217|29=>218|30=>219|37=>257|38=>175|39=>176|40=>141|41=>257|42=>141|44=>286|45=>228|46=>229|47=>287|48=>288|49=>289|50=>59|51=>290|52=>234|53=>235|54=>236|55=>237|56=>286|57=>287|58=>288|59=>289|60=>290|66=>264|67=>265|68=>266|69=>305|70=>268|71=>306|72=>305|73=>306|76=>297|77=>298|78=>323|79=>323|81=>77|82=>333|83=>334|84=>335|85=>336|86=>337|87=>140|88=>339|89=>151|90=>340|91=>126|92=>341|93=>342|94=>343|95=>344|96=>143|n=>n,fun n=>n⟩
theorem Tryz.laysSort:Go.Proofs.SlLaysF.n6 prog Tryz.laysSort_ren:={
 mixed:=by kernel_rfl
 f6:=⟨ "slices.SortFunc[[]int,int]",by decide,func129.trans (congrArg some (by kernel_rfl))⟩
 f14:=⟨ "slices.pdqsortCmpFunc[int]",by decide,func171.trans (congrArg some (by kernel_rfl))⟩
 f15:=func101.trans (congrArg some (by kernel_rfl))
 f20:=⟨ "slices.insertionSortCmpFunc[int]",by decide,func207.trans (congrArg some (by kernel_rfl))⟩
 f21:=⟨ "slices.heapSortCmpFunc[int]",by decide,func208.trans (congrArg some (by kernel_rfl))⟩
 f22:=⟨ "slices.breakPatternsCmpFunc[int]",by decide,func209.trans (congrArg some (by kernel_rfl))⟩
 f23:=⟨ "slices.choosePivotCmpFunc[int]",by decide,func210.trans (congrArg some (by kernel_rfl))⟩
 f24:=⟨ "slices.reverseRangeCmpFunc[int]",by decide,func211.trans (congrArg some (by kernel_rfl))⟩
 f25:=⟨ "slices.partialInsertionSortCmpFunc[int]",by decide,func212.trans (congrArg some (by kernel_rfl))⟩
 f26:=⟨ "slices.partitionEqualCmpFunc[int]",by decide,func213.trans (congrArg some (by kernel_rfl))⟩
 f27:=⟨ "slices.partitionCmpFunc[int]",by decide,func214.trans (congrArg some (by kernel_rfl))⟩
 f28:=func147.trans (congrArg some (by kernel_rfl))
 f29:=func148.trans (congrArg some (by kernel_rfl))
 f46:=⟨ "slices.siftDownCmpFunc[int]",by decide,func231.trans (congrArg some (by kernel_rfl))⟩
 f47:=func180.trans (congrArg some (by kernel_rfl))
 f48:=func181.trans (congrArg some (by kernel_rfl))
 f49:=⟨ "slices.medianAdjacentCmpFunc[int]",by decide,func232.trans (congrArg some (by kernel_rfl))⟩
 f50:=⟨ "slices.medianCmpFunc[int]",by decide,func233.trans (congrArg some (by kernel_rfl))⟩
 f57:=⟨ "slices.order2CmpFunc[int]",by decide,func249.trans (congrArg some (by kernel_rfl))⟩
 t0:=underlying0
 a0:=isAgg0
 z0:=sizeOf0
 v0:=zeroValue0
 t3:=underlying3
 a3:=isAgg3
 z3:=sizeOf3
 v3:=zeroValue3
 t4:=underlying4
 a4:=isAgg4
 z4:=sizeOf4
 v4:=zeroValue4
 t5:=underlying5
 a5:=isAgg5
 z5:=sizeOf5
 v5:=zeroValue5
 t9:=underlying9
 a9:=isAgg9
 z9:=sizeOf9
 v9:=zeroValue9
 t22:=underlying88
 a22:=isAgg88
 z22:=sizeOf88
 v22:=zeroValue88
 a24:=isAgg3
 z24:=sizeOf3
 t25:=underlying218
 a25:=isAgg218
 z25:=sizeOf218
 v25:=zeroValue218
 t39:=underlying176
 a39:=isAgg176
 z39:=sizeOf176
 v39:=zeroValue176
 t45:=underlying228
 a45:=isAgg228
 z45:=sizeOf228
 v45:=zeroValue228
 t46:=underlying229
 a46:=isAgg229
 z46:=sizeOf229
 v46:=zeroValue229
 t50:=underlying59
 a50:=isAgg59
 z50:=sizeOf59
 v50:=zeroValue59
 t53:=underlying235
 a53:=isAgg235
 z53:=sizeOf235
 v53:=zeroValue235
 t55:=underlying237
 a55:=isAgg237
 z55:=sizeOf237
 v55:=zeroValue237
 t66:=underlying264
 a66:=isAgg264
 z66:=sizeOf264
 v66:=zeroValue264
 t70:=underlying268
 a70:=isAgg268
 z70:=sizeOf268
 v70:=zeroValue268
 t76:=underlying297
 a76:=isAgg297
 z76:=sizeOf297
 v76:=zeroValue297
 t77:=underlying298
 a77:=isAgg298
 z77:=sizeOf298
 v77:=zeroValue298 }
end Go.Proofs
namespace Go.Proofs
open Go.Shelf
def Tryz.lays106_ren:Go.Shelf.Ren:=⟨fun|106=>131|213=>172|265=>215|n=>n,fun|22=>263|24=>169|25=>170|27=>66|28=>88|31=>41|32=>172|33=>118|35=>219|37=>69|40=>312|41=>127|42=>220|43=>218|46=>176|47=>175|48=>132|49=>351|51=>235|52=>234|53=>237|54=>236|55=>258|67=>125|69=>75|70=>68|71=>70|72=>71|73=>112|74=>49|75=>50|76=>72|77=>73|78=>161|79=>283|80=>77|81=>140|83=>74|84=>178|85=>318|86=>319|94=>165|100=>179|101=>56|102=>57|103=>171|104=>78|105=>284|106=>285|108=>328|111=>141|112=>221|114=>270|119=>313|126=>303|127=>126|128=>304|131=>59|135=>243|137=>314|138=>315|139=>316|143=>330|144=>331|145=>332|164=>143|165=>177|166=>279|167=>317|168=>320|169=>321|170=>322|171=>238|172=>239|173=>240|174=>241|175=>324|176=>325|182=>228|183=>229|188=>274|189=>275|190=>276|191=>277|192=>278|209=>326|210=>327|211=>271|212=>272|213=>273|214=>329|218=>264|219=>265|220=>266|222=>268|224=>300|225=>301|228=>297|229=>298|231=>311|232=>309|233=>310|238=>333|239=>334|240=>335|241=>336|242=>337|243=>339|244=>151|245=>340|246=>341|247=>342|248=>343|249=>344|n=>n,fun|1=>7|3=>10|4=>11|15=>12|16=>13|17=>6|18=>8|19=>9|n=>n⟩
theorem Tryz.lays106:Go.Proofs.Lays.n106 prog Tryz.lays106_ren:={
 mixed:=by kernel_rfl
 f106:=func131.trans (congrArg some (by kernel_rfl))
 f213:=func172.trans (congrArg some (by kernel_rfl))
 f265:=func215.trans (congrArg some (by kernel_rfl))
 t3:=underlying3
 a3:=isAgg3
 z3:=sizeOf3
 v3:=zeroValue3
 t9:=underlying9
 a9:=isAgg9
 z9:=sizeOf9
 v9:=zeroValue9 }
end Go.Proofs
