import Derived.Test.YtbcfhgpfgdbjgaaGreatDoorK19
import Derived.Test.YtbcfhgpfgdbjgaaGreatDoorK07
set_option linter.all false
set_option maxRecDepth 100000
set_option maxHeartbeats 0
open Go.Proofs.Tryz
namespace Go.Proofs.YtbcfhgpfgdbjgaaGreatDoor
open Go.RowKit Go.Maps Go.WideMaps Go.Joins
variable{ns:List Tn}{l:List UInt8}{B:Nat}{v:Value}{w w':World}
theorem KyR.keepR{g R:Nat}{l:List (List UInt8 × Nat)}{s:ByteArray}{i T:Nat}(h:KyR w g l)(hr:Rd w R s i T)(hg:w.grownBy w' (some R)):KyR w' g l:=by
 obtain⟨cur,h1,h2⟩:=h;exact⟨cur,(hg.block g (aG h1) (by simp only[ne_eq,Option.some.injEq];exact aZ h1 hr (by decide))).trans h1,h2⟩
theorem ahM(B R T:Nat)(s:ByteArray)(E:Int->TypeId × Value)(own:List Nat)(now i:Nat)(ns:List Tn)(w:World)(h:Rd w R s i T)(htr:Tr w B T ns own now)(G:Gl w B E)(hR:B<=R)(hi:i<s.size)(hs:s.size<=100000)(J:Jt ns own now)(h0:ay ns 0=0)(hsz:ns.length+own.length+(s.size-i)<=700000) :
  Calls prog 68 #[.pointer (some ⟨R,0,none⟩)] w (sS B R T s E (iw s.data.toList ⟨i,ns,own,now⟩) w):=by
 have hl:s.data.toList.length=s.size:=by simp
 have hB:=htr.base;have CN:=ae (fun k w (h1:Rd w R s k T) (h2:k<=s.size)=>nN R s k T w h1 h2 (by omega));have CK:=ae (fun a w' (h1:Rd w' R s a T) (hg:w.grownBy w' (some R)) (ha:a<=s.size)=>afN R s a T B E w' h1 ha hs (G.gb hg hR hB) hR (Nat.le_trans hB hg.size));have CT:Hd (∀k w',Rd w' R s k T->w.grownBy w' (some R)->k<=s.size->Calls prog 72 #[.pointer (some ⟨R,0,none⟩),.int .i64 93] w' fun e w''=>(∃v,e=.returned v/\Hd ((∀q,must s.data.toList k 93=.ok q->v=.nilIface/\Rd w'' R s q T)/\(∀c p,must s.data.toList k 93=.error (c,p)->∃F,v=.iface 99 (.pointer (some ⟨F,0,none⟩))/\dD w'' v E c p)))/\w'.grownBy w'' (some R)):=fun k w' h1 hg hk =>
  (MF R s k T 93 (E 2).1 (E 2).2 w' h1 hk (by omega) (by decide) (G.gb hg hR hB).es.te).mono fun e w'' ⟨a1,a2,a3⟩=>by
   unfold must
   by_cases hx:nx s.data.toList k=93
   ·rw[if_pos hx];exact⟨⟨_,(a1 hx).1,fun q hq=>(by cases hq;exact⟨rfl,(a1 hx).2⟩),fun c p hp=>(by cases hp)⟩,a3⟩
   ·rw[if_neg hx];obtain⟨⟨v,e1,F,rfl,hF⟩,-⟩:=a2 hx;exact⟨⟨_,e1,fun q hq=>(by cases hq),fun c p hp=>(by cases hp;exact⟨F,rfl,F,rfl,hF⟩)⟩,a3⟩
 have CE:Hd (∀(many:Bool) ks d g c j w',ks.length=d+1->d+1<=c->d<=s.size-i->(∀x∈ks,x.1.length<=1048576)->KyR w' g ks->Rd w' R s j T->w.grownBy w' (some R)->Calls prog 97 #[.pointer (some ⟨T,0,none⟩),.slice (some ⟨g,0,none⟩) ks.length c,.bool many] w' fun e w''=>∃u,e=.returned u/\Hd (sS B R T s E (Dv j own (way many own ks 0 ns)) w (.returned u) w'')):=fun many ks d g c j w' a1 a2 a3 a4 a5 a6 hg=>by
  rw[a1];exact(afv B T ns own now E ks many g c d w' (htr.keepR h hg) ⟨J.wf,J.wt,by have:=J.lt;omega,h0⟩ a1 a2 a5 (by omega) a4 (G.gb hg hR hB).es G.lo).mono fun e w'' hv=>af4 (kL hg hR hB) a6 hv
 have jU:Hd (∀a ks j,a<=s.size->gV s.data.toList (s.data.toList.length+1) a []=.ok (ks,j)->(∀x∈ks,x.1.length<=1048576)/\0<ks.length/\ks.length+a<=j/\j<=s.size):=fun a ks j ha hh=>by
  obtain⟨b1,b2,b3,b4⟩:=JS s.data.toList _ a [] ks j (by omega) (by simp) hh;refine⟨fun x hx=>by have:=b1 x hx;omega,by simpa using b2,by simpa using b3,by omega⟩
 have pU:Hd (∀k q,must s.data.toList k 93=.ok q->q=k+1/\k<s.size):=fun k q a=>by
  unfold must at a;split at a
  ·rename_i hx;have:=bD (l:=s.data.toList) (i:=k) (by rw[hx];decide)
   cases a
   omega
  ·cases a
 have IU:Hd (nx s.data.toList (i+1)=91->i+1<s.size):=fun hx=>by
  have:=bD (l:=s.data.toList) (i:=i+1) (by rw[hx];decide);omega
 obtain⟨many,uQ⟩:=zN (decide (nx s.data.toList (i+1)=91));have lu:=F7 s.data.toList i ns own now many uQ;obtain⟨S,hS⟩:=zN (iw s.data.toList ⟨i,ns,own,now⟩);rw[hS]at lu ⊢;have HP:Hd (S=_):=lu;obtain⟨-,r1,-,rf⟩:=h.cells;have rf1:=rf 1;have HR1:Hd (Rd (w.setCell ⟨R,1,none⟩ (.int .i64 ((i:Int)+1))) R s (i+1) T):=h.set (i+1);have aC:Hd (w.grownBy (w.setCell ⟨R,1,none⟩ (.int .i64 ((i:Int)+1))) (some R)):=fO w R 1 _;have C1:=ae (CN.o (i+1) _ HR1.o (by omega));obtain⟨x,hx⟩:=zN (nx s.data.toList (i+1));rw[hx]at C1 uQ IU;have Dl:=ae uQ;clear lu hS hx uQ h htr G J rf;go_enter func68,ntmps68;go_wp2_with (go_at_call 67;refine C1.o.mono ?_);rintro e w1 ⟨rfl,hg1⟩;have QL:=ae (HR1.o.grow hg1);have Df:=ae (aP aC.o hg1);clear hg1 r1 rf1
 cases many with
 |false=>
  have c91:=of_decide_eq_false Dl.o;have e91:(x == 91)=false:=by simp[c91]
  clear c91;have GH:=ae (fun w' (a:Rd w' R s (i+1) T) (b:w.grownBy w' (some R))=>CK.o (i+1) w' a b (by omega));have Ai:=jU.o (i+1);have jy:=HP.o;simp only[Bool.false_eq_true,if_false]at jy;obtain⟨KR,lw⟩:=zN (gV s.data.toList (s.data.toList.length+1) (i+1) []);rw[lw]at GH Ai jy;have GI:=ae Ai;have Aj:Hd (S=_):=jy;clear Ai jy lw HP CK jU;go_wp2_with (go_at_call 96;refine(GH.o _ QL.o Df.o).mono ?_);rintro e w2 ⟨p1,p2,p3⟩;have HG2:=ae (dK Df.o p3)
  cases KR with
  |error ec=>
   obtain⟨ec1,ec2⟩:=ec;obtain⟨F,rfl,hF⟩:=p2 ec1 ec2 rfl;have dS:=ae hF;have aB:Hd (S=.error (ec1,ec2)):=Aj.o;clear p1 p2 p3 hF;go_wp2;refine bodyPost_ret (results_tmp (t:=2) rfl _ _ _) rfl ?_;rw[aB.o];exact⟨fun d hh=>(by cases hh),fun c p hh=>(by cases hh;exact⟨F,rfl,dS.o⟩),kL HG2.o hR hB⟩
  |ok q=>
   obtain⟨ks,j⟩:=q;obtain⟨g,c,rfl,hky,hkc,hr2⟩:=p1 ks j rfl;obtain⟨k1,k2,k3,k4⟩:=GI.o ks j (by omega) rfl;have fD:=ae hky;have HR2:=ae hr2;have BH:=ae k1;have HP2:=Aj.o
   try simp only[]at HP2
   have kM:=CT.o j;have pV:=pU.o j;obtain⟨MU,mD⟩:=zN (must s.data.toList j 93);rw[mD]at kM pV HP2;have GK:=ae kM;have GL:=ae pV;have sU:Hd (S=_):=HP2;clear p1 p2 p3 hky hr2 k1 kM pV HP2 mD Aj GI;go_wp2_with (go_at_call 72;refine(GK.o _ HR2.o HG2.o k4).mono ?_);rintro e w3 ⟨⟨v,rfl,hv⟩,hg3⟩;have aU:=ae (dK HG2.o hg3);have iY:=ae (fD.o.keepR HR2.o hg3);clear hg3
   cases MU with
   |error ec=>
    obtain⟨ec1,ec2⟩:=ec;obtain⟨F,rfl,hF⟩:=hv.o.2 ec1 ec2 rfl;have dS:=ae hF;have aB:Hd (S=.error (ec1,ec2)):=sU.o;clear hv hF;go_wp2;refine bodyPost_ret (results_tmp (t:=2) rfl _ _ _) rfl ?_;rw[aB.o];exact⟨fun d hh=>(by cases hh),fun c p hh=>(by cases hh;exact⟨F,rfl,dS.o⟩),kL aU.o hR hB⟩
   |ok j1=>
    obtain⟨rfl,hr3⟩:=hv.o.1 j1 rfl;obtain⟨m1,m2⟩:=GL.o j1 rfl;have HR3:=ae hr3;have uZ:=sU.o
    try simp only[]at uZ
    clear hv hr3 sU GL GK;have wP:=uZ;clear uZ;obtain⟨d,hd⟩:∃d,ks.length=d+1:=⟨ks.length-1,by omega⟩;have ny:Hd (Calls prog 97 #[.pointer (some ⟨T,0,none⟩),.slice (some ⟨g,0,none⟩) ks.length c,.bool false] w3 fun e w''=>∃u,e=.returned u/\Hd (sS B R T s E S w (.returned u) w'')):=by
     rw[wP];exact CE.o false ks d g c j1 w3 hd (by omega) (by omega) BH.o iY.o HR3.o aU.o
    obtain⟨-,-,rr,-⟩:=HR3.o.cells;clear wP CE hd;go_wp2_with (go_at_call 97;refine ny.o.mono ?_;rintro e w9 ⟨u,rfl,hu⟩);refine bodyPost_ret (results_tmp (t:=2) rfl _ _ _) rfl ?_;exact hu.o
 |true=>
  have c91:=of_decide_eq_true Dl.o;have e91:(x == 91)=true:=by simp[c91]
  have hx1:=IU.o c91;obtain⟨-,s1,-,sf⟩:=QL.o.cells;have sf1:=sf 1;have e2:((i+1:Nat):Int)+1=((i+2:Nat):Int):=by omega
  have HRb:Hd (Rd (w1.setCell ⟨R,1,none⟩ (.int .i64 (((i+1:Nat):Int)+1))) R s (i+2) T):=QL.o.set (i+2);have Zo:Hd (w.grownBy (w1.setCell ⟨R,1,none⟩ (.int .i64 (((i+1:Nat):Int)+1))) (some R)):=aT Df.o 1 _;clear c91 sf e2;have GH:=ae (fun w' (a:Rd w' R s (i+2) T) (b:w.grownBy w' (some R))=>CK.o (i+2) w' a b (by omega));have Ai:=jU.o (i+2);have jy:=HP.o;simp only[if_true]at jy;obtain⟨KR,lw⟩:=zN (gV s.data.toList (s.data.toList.length+1) (i+2) []);rw[lw]at GH Ai jy;have GI:=ae Ai;have Aj:Hd (S=_):=jy;clear Ai jy lw HP CK jU;go_wp2_with (go_at_call 96;refine(GH.o _ HRb.o Zo.o).mono ?_);rintro e w2 ⟨p1,p2,p3⟩;have HG2:=ae (dK Zo.o p3)
  cases KR with
  |error ec=>
   obtain⟨ec1,ec2⟩:=ec;obtain⟨F,rfl,hF⟩:=p2 ec1 ec2 rfl;have dS:=ae hF;have aB:Hd (S=.error (ec1,ec2)):=Aj.o;clear p1 p2 p3 hF;go_wp2;refine bodyPost_ret (results_tmp (t:=2) rfl _ _ _) rfl ?_;rw[aB.o];exact⟨fun d hh=>(by cases hh),fun c p hh=>(by cases hh;exact⟨F,rfl,dS.o⟩),kL HG2.o hR hB⟩
  |ok q=>
   obtain⟨ks,j⟩:=q;obtain⟨g,c,rfl,hky,hkc,hr2⟩:=p1 ks j rfl;obtain⟨k1,k2,k3,k4⟩:=GI.o ks j (by omega) rfl;have fD:=ae hky;have HR2:=ae hr2;have BH:=ae k1;have HP2:=Aj.o
   try simp only[]at HP2
   have kM:=CT.o j;have pV:=pU.o j;obtain⟨MU,mD⟩:=zN (must s.data.toList j 93);rw[mD]at kM pV HP2;have GK:=ae kM;have GL:=ae pV;have sU:Hd (S=_):=HP2;clear p1 p2 p3 hky hr2 k1 kM pV HP2 mD Aj GI;go_wp2_with (go_at_call 72;refine(GK.o _ HR2.o HG2.o k4).mono ?_);rintro e w3 ⟨⟨v,rfl,hv⟩,hg3⟩;have aU:=ae (dK HG2.o hg3);have iY:=ae (fD.o.keepR HR2.o hg3);clear hg3
   cases MU with
   |error ec=>
    obtain⟨ec1,ec2⟩:=ec;obtain⟨F,rfl,hF⟩:=hv.o.2 ec1 ec2 rfl;have dS:=ae hF;have aB:Hd (S=.error (ec1,ec2)):=sU.o;clear hv hF;go_wp2;refine bodyPost_ret (results_tmp (t:=2) rfl _ _ _) rfl ?_;rw[aB.o];exact⟨fun d hh=>(by cases hh),fun c p hh=>(by cases hh;exact⟨F,rfl,dS.o⟩),kL aU.o hR hB⟩
   |ok j1=>
    obtain⟨rfl,hr3⟩:=hv.o.1 j1 rfl;obtain⟨m1,m2⟩:=GL.o j1 rfl;have HR3:=ae hr3;have uZ:=sU.o
    try simp only[]at uZ
    clear hv hr3 sU GL GK;have lU:=CT.o j1;have uP:=pU.o j1;obtain⟨MV,Zp⟩:=zN (must s.data.toList j1 93);rw[Zp]at lU uP uZ;have JQ:=ae lU;have QM:Hd (S=_):=uZ;clear lU uP uZ Zp CT;go_wp2_with (go_at_call 72;refine(JQ.o _ HR3.o aU.o (by omega)).mono ?_);rintro e w4 ⟨⟨v,rfl,hv⟩,hg4⟩;have dn:=ae (dK aU.o hg4);have qh:=ae (iY.o.keepR HR3.o hg4);clear hg4
    cases MV with
    |error ec=>
     obtain⟨ec1,ec2⟩:=ec;obtain⟨F,rfl,hF⟩:=hv.o.2 ec1 ec2 rfl;have dS:=ae hF;have aB:Hd (S=.error (ec1,ec2)):=QM.o;clear hv hF;go_wp2;refine bodyPost_ret (results_tmp (t:=2) rfl _ _ _) rfl ?_;rw[aB.o];exact⟨fun d hh=>(by cases hh),fun c p hh=>(by cases hh;exact⟨F,rfl,dS.o⟩),kL dn.o hR hB⟩
    |ok j2=>
     obtain⟨rfl,hr4⟩:=hv.o.1 j2 rfl;have HR4:=ae hr4;have wP:S=Dv j2 own (way true own ks 0 ns):=QM.o;clear hv hr4 QM JQ;obtain⟨d,hd⟩:∃d,ks.length=d+1:=⟨ks.length-1,by omega⟩;have ny:Hd (Calls prog 97 #[.pointer (some ⟨T,0,none⟩),.slice (some ⟨g,0,none⟩) ks.length c,.bool true] w4 fun e w''=>∃u,e=.returned u/\Hd (sS B R T s E S w (.returned u) w'')):=by
      rw[wP];exact CE.o true ks d g c j2 w4 hd (by omega) (by omega) BH.o qh.o HR4.o dn.o
     obtain⟨-,-,rr,-⟩:=HR4.o.cells;clear wP CE hd;go_wp2_with (go_at_call 97;refine ny.o.mono ?_;rintro e w9 ⟨u,rfl,hu⟩);refine bodyPost_ret (results_tmp (t:=2) rfl _ _ _) rfl ?_;exact hu.o
def vg(l:List UInt8)(d:Sd)(c:Bool × Nat):Rs Sd :=
 if c.1=false then .error (2,c.2)
 else if nx l c.2=-1 then .ok ⟨c.2,d.ns,d.own,d.now⟩
 else match must l c.2 10 with
  | .error e=>.error e
  | .ok j=>.ok ⟨j,d.ns,d.own,d.now⟩
def lnT(l:List UInt8):Rs Sd->Rs Sd
 | .error e=>.error e
 | .ok d=>vg l d (bH l (bl l d.i))
theorem QN(l:List UInt8)(i:Nat)(ns:List Tn)(own:List Nat)(now:Nat):iH l ⟨i,ns,own,now⟩=lnT l (if nx l (bl l i)=91 then iw l ⟨bl l i,ns,own,now⟩ else if nx l (bl l i)=34\/bP (nx l (bl l i))=true then rdPair l ⟨bl l i,ns,own,now⟩ else .ok ⟨bl l i,ns,own,now⟩):=by
 unfold iH;simp only[]
 cases (if nx l (bl l i)=91 then iw l ⟨bl l i,ns,own,now⟩ else if nx l (bl l i)=34\/bP (nx l (bl l i))=true then rdPair l ⟨bl l i,ns,own,now⟩ else .ok ⟨bl l i,ns,own,now⟩) with
 |error e=>rfl
 |ok d=>rfl
theorem ahN(B R T:Nat)(s:ByteArray)(E:Int->TypeId × Value)(own:List Nat)(now i:Nat)(ns:List Tn)(w:World)(h:Rd w R s i T)(htr:Tr w B T ns own now)(G:Gl w B E)(hR:B<=R)(hs:s.size<=100000)(L:Li s.data.toList ⟨i,ns,own,now⟩) :
  Calls prog 50 #[.pointer (some ⟨R,0,none⟩)] w (sS B R T s E (iH s.data.toList ⟨i,ns,own,now⟩) w):=by
 have hl:s.data.toList.length=s.size:=by simp
 have hB:=htr.base;have hi:i<=s.size:=by have:=L.le;simp only[]at this;omega
 have CN:=ae (fun k w (h1:Rd w R s k T) (h2:k<=s.size)=>nN R s k T w h1 h2 (by omega));have CB:=ae TI;have CS:=ae (fun k w (h1:Rd w R s k T) (h2:k<=s.size)=>Iw R s k T w h1 h2 (by omega));have CC:=ae (fun k w' (h1:Rd w' R s k T) (hb:Below B w w') (hk:k<=s.size)=>TG R s k T (E 2).1 (E 2).2 w' h1 hk (by omega) (G.bel hb).es.te (CY G.lo hR).te);have CT:=ae (fun k ns own now w' (h1:Rd w' R s k T) (h2:Tr w' B T ns own now) (hb:Below B w w') (hk:k<=s.size)=>X0 B R T s E own now k 10 (by decide) ns w' h1 h2 (G.bel hb) hR hk hs);have fV:Hd (∀k,k<=s.size->k<=bl s.data.toList k/\bl s.data.toList k<=s.size):=fun k hk=>by rw[<-hl];exact jQ _ k (by omega)
 have HCM:Hd (∀k,k<=s.size->k<=(bH s.data.toList k).2/\(bH s.data.toList k).2<=s.size):=fun k hk=>by rw[<-hl];exact Eu _ k (by omega)
 obtain⟨b1,b2⟩:=fV.o i hi;have C1:=CS.o i w h hi;have lu:=QN s.data.toList i ns own now;obtain⟨j,hj⟩:=zN (bl s.data.toList i);rw[hj]at C1 b1 b2 lu;have L':Li s.data.toList ⟨j,ns,own,now⟩:=⟨L.jt,L.rt,by simp only[];omega,by have:=L.nn;simp only[]at this ⊢;omega,by have:=L.on;simp only[]at this ⊢;omega⟩;have yQ:=ae (fun(hx:nx s.data.toList j=91) w' (h1:Rd w' R s j T) (h2:Tr w' B T ns own now) (hb:Below B w w')=>ahM B R T s E own now j ns w' h1 h2 (G.bel hb) hR (by have:=bD (l:=s.data.toList) (i:=j) (by rw[hx];decide);omega) hs L'.jt L'.rt (by have:=L'.nn;have:=L'.on;simp only[]at *;omega));have KJ:=ae (fun w' (h1:Rd w' R s j T) (h2:Tr w' B T ns own now) (hb:Below B w w')=>af0 B R T s E own now j ns w' h1 h2 (G.bel hb) hR b2 hs L'.jt (by have:=L'.nn;have:=L'.on;simp only[]at *;omega));have DN:Hd (nx s.data.toList j=91->∀d,iw s.data.toList ⟨j,ns,own,now⟩=.ok d->d.i<=s.size):=fun hx d hd=>by
  have:=(P5 s.data.toList _ d L' (bD (l:=s.data.toList) (i:=j) (by rw[hx];decide)) hd).1.le;omega
 have gX:Hd (∀d,rdPair s.data.toList ⟨j,ns,own,now⟩=.ok d->d.i<=s.size):=fun d hd=>by
  have:=(PZ s.data.toList _ d L' hd).1.le;omega
 obtain⟨S,hS⟩:=zN (iH s.data.toList ⟨i,ns,own,now⟩);rw[hS]at lu ⊢;obtain⟨HD,Zq⟩:=zN (iw s.data.toList ⟨j,ns,own,now⟩);obtain⟨PR,qj⟩:=zN (rdPair s.data.toList ⟨j,ns,own,now⟩);rw[Zq]at lu yQ DN;rw[qj]at lu KJ gX;obtain⟨x,hx⟩:=zN (nx s.data.toList j);rw[hx]at lu yQ DN;have HP:Hd (S=_):=lu;have zV:=ae C1;have C2:Hd (∀w',Rd w' R s j T->Calls prog 67 #[.pointer (some ⟨R,0,none⟩)] w' fun e w''=>e=.returned (.int .i64 x)/\w'.grownBy w'' none):=fun w' hh=>by rw[<-hx];exact CN.o j w' hh b2
 have nY:=ae htr;have H0:=ae h;clear lu hS Zq qj hx hj C1 h htr G L L';go_enter func50,ntmps50;go_wp2_with (go_at_call 66;refine zV.o.mono ?_);rintro e w1 ⟨rfl,hr1,hg1⟩;have HR1:=ae hr1;have HB1:=ae (kL hg1 hR hB);have HT1:=ae (nY.o.keepR H0.o hg1);clear hr1 hg1;go_wp2_with (first|(go_at_call 67;refine(C2.o _ HR1.o).mono ?_));rintro e w2 ⟨rfl,hg2⟩;have HR2:=ae (HR1.o.grow hg2);have HB2:=ae (HB1.o.trans (oz hg2 HT1.o.base));have HT2:=ae (HT1.o.gb hg2);clear hg2;have hcs:x=91\/(¬x=91/\x=34)\/(¬x=91/\¬x=34/\bP x=true)\/(¬x=91/\¬x=34/\bP x=false):=by
  by_cases a:x=91
  ·exact .inl a
  ·by_cases b:x=34
   ·exact .inr (.inl ⟨a,b⟩)
   ·cases c:bP x with
    |true=>exact .inr (.inr (.inl ⟨a,b,rfl⟩))
    |false=>exact .inr (.inr (.inr ⟨a,b,rfl⟩))
 rcases hcs with q1|⟨n91,q2⟩|⟨n91,n34,q3⟩|⟨n91,n34,q4⟩
 all_goals (
  have tC:=HP.o
  first
   | (first
     | (have e91:(x == 91)=true:=by simp[q1]
        have C3:=yQ.o q1;have E8:=ae (DN.o q1);rw[if_pos q1]at tC;have KL:=ae tC;have PS:=ae C3;clear q1 C3 tC HP yQ DN KJ gX CB;go_wp2_with (go_at_call 68;refine(PS.o _ HR2.o HT2.o HB2.o).mono ?_);rintro e w3 ⟨p1,p2,p3⟩;obtain⟨X,rfl⟩:∃X,X=HD:=⟨_,rfl⟩)
     | (have e91:(x == 91)=false:=by simp[n91]
        rw[if_neg n91]at tC
        first
        | (have e34:(x == 34)=true:=by simp[q2]
           rw[if_pos (Or.inl q2)]at tC;clear q2 n91 CB)
        | (have e34:(x == 34)=false:=by simp[n34]
           have fZ:Hd (∀w,Calls prog 69 #[.int .i64 x] w fun e w'=>e=.returned (.bool true)/\w'=w):=fun w=>by have:=CB.o x w;rw[q3]at this;exact this
           rw[if_pos (Or.inr q3)]at tC;clear q3 n91 n34 CB)
        have KL:=ae tC;have E8:=ae gX.o;clear tC HP yQ DN gX
        try
         go_wp2_with (go_at_call 69;refine(fZ.o _).mono ?_);rintro e w' ⟨rfl,rfl⟩
        go_wp2_with (go_at_call 70;refine(KJ.o _ HR2.o HT2.o HB2.o).mono ?_);rintro e w3 ⟨p1,p2,p3⟩;obtain⟨X,rfl⟩:∃X,X=PR:=⟨_,rfl⟩)
      have QO:=ae (HB2.o.trans p3)
      rcases X with⟨ec1,ec2⟩|d
      ·obtain⟨F,rfl,hF⟩:=p2 ec1 ec2 rfl;have dS:=ae hF;have aB:Hd (S=.error (ec1,ec2)):=KL.o;clear p1 p2 p3 hF;go_wp2;refine bodyPost_ret (results_tmp (t:=2) rfl _ _ _) rfl ?_;rw[aB.o];exact⟨fun d hh=>(by cases hh),fun c p hh=>(by cases hh;exact⟨F,rfl,dS.o⟩),QO.o⟩
      obtain⟨rfl,hr3,ht3⟩:=p1 d rfl;have hdl:=E8.o d rfl;have QP:=ae hr3;have QQ:=ae ht3;have QR:Hd (S=vg s.data.toList d (bH s.data.toList (bl s.data.toList d.i))):=KL.o;clear p1 p2 p3 hr3 ht3 KL E8)
   | (have e91:(x == 91)=false:=by simp[n91]
      have e34:(x == 34)=false:=by simp[n34]
      have fZ:Hd (∀w,Calls prog 69 #[.int .i64 x] w fun e w'=>e=.returned (.bool false)/\w'=w):=fun w=>by have:=CB.o x w;rw[q4]at this;exact this
      rw[if_neg n91,if_neg (by rintro(h|h);exact n34 h;rw[q4]at h;cases h)]at tC;have o8:Hd (S=vg s.data.toList ⟨j,ns,own,now⟩ (bH s.data.toList (bl s.data.toList j))):=tC;clear q4 n91 n34 CB tC HP yQ DN KJ gX;go_wp2_with (go_at_call 69;refine(fZ.o _).mono ?_);rintro e w3 ⟨rfl,rfl⟩;obtain⟨d,hd⟩:∃d:Sd,d=⟨j,ns,own,now⟩:=⟨_,rfl⟩;have QP:Hd (Rd w3 R s d.i T):=by rw[hd];exact HR2.o
      have QQ:Hd (Tr w3 B T d.ns d.own d.now):=by rw[hd];exact HT2.o
      have hdl:d.i<=s.size:=by rw[hd];exact b2
      have QR:Hd (S=vg s.data.toList d (bH s.data.toList (bl s.data.toList d.i))):=by rw[hd];exact o8.o
      have QO:=ae HB2.o;clear hd o8)
  obtain⟨g1,g2⟩:=fV.o d.i hdl;have C5:=CS.o d.i w3 QP.o hdl;have Cf:=QR.o;obtain⟨j5,Zr⟩:=zN (bl s.data.toList d.i);rw[Zr]at C5 g1 g2 Cf;have PE:=ae C5;obtain⟨f1,f2⟩:=HCM.o j5 g2;have QS:=CC.o j5;obtain⟨cm,hcm⟩:=zN (bH s.data.toList j5);rw[hcm]at QS Cf f1 f2;obtain⟨okb,j6⟩:=cm;simp only[]at f1 f2;have ahO:=ae (fun w' (a:Rd w' R s j5 T) (b:Below B w w')=>QS w' a b g2);have QT:=ae Cf;clear C5 QS Cf Zr hcm QR;go_wp2_with (first|(go_at_call 66;refine PE.o.mono ?_));rintro e w5 ⟨rfl,qO,hg5⟩;have nz:=ae qO;have uG:=ae (QO.o.trans (kL hg5 hR QQ.o.base));have Zt:=ae (QQ.o.keepR QP.o hg5);clear qO hg5;go_wp2_with (first|(go_at_call 71;refine(ahO.o _ nz.o uG.o).mono ?_));rintro e w6 ⟨q1,q2,q3,q4⟩;have oN:Hd (Rd w6 R s j6 T):=q3;have Jn:=ae (uG.o.trans (kL q4 hR Zt.o.base))
  have xk:=ae (Zt.o.keepR nz.o q4);clear q3 q4
  cases okb with
  |false=>
   obtain⟨v,rfl,F,rfl,hF⟩:=q2 rfl;have dS:Hd (dD w6 (.iface 99 (.pointer (some ⟨F,0,none⟩))) E 2 j6):=⟨F,rfl,hF⟩;have aB:Hd (S=.error (2,j6)):=by
    have:=QT.o;unfold vg at this;rw[if_pos rfl]at this;exact this
   clear q1 q2 hF;go_wp2;refine bodyPost_ret (results_tmp (t:=2) rfl _ _ _) rfl ?_;rw[aB.o];exact⟨fun d hh=>(by cases hh),fun c p hh=>(by cases hh;exact⟨F,rfl,dS.o⟩),Jn.o⟩
  |true=>
   obtain rfl:=q1 rfl;have C7:=ae (CN.o j6 w6 oN.o f2);have vw:=QT.o;unfold vg at vw;rw[if_neg (by simp)]at vw;simp only[]at vw;have QU:=CT.o j6 d.ns d.own d.now;obtain⟨MU,mD⟩:=zN (must s.data.toList j6 10);rw[mD]at vw QU;obtain⟨y,hy⟩:=zN (nx s.data.toList j6);rw[hy]at vw C7;have Zu:Hd (S=_):=vw;have ahP:=ae QU;clear q1 q2 vw QU mD hy QT;go_wp2_with (first|(go_at_call 67;refine C7.o.mono ?_));rintro e w7 ⟨rfl,iV⟩;have yc:=ae (oN.o.grow iV);have BO:=ae (Jn.o.trans (oz iV xk.o.base));have Zv:=ae (xk.o.gb iV);clear iV
   by_cases cy:y=-1
   ·have ey:(y == -1)=true:=by simp[cy]
    have aB:Hd (S=.ok ⟨j6,d.ns,d.own,d.now⟩):=by
     have:=Zu.o;rw[if_pos cy]at this;exact this
    clear cy;go_wp2;refine bodyPost_ret (results_tmp (t:=2) rfl _ _ _) rfl ?_;rw[aB.o];exact⟨fun d hh=>(by cases hh;exact⟨rfl,yc.o,Zv.o⟩),fun c p hh=>(by cases hh),BO.o⟩
   ·have ey:(y == -1)=false:=by simp[cy]
    have aB:Hd (S=match (generalizing:=false) MU with | .error e=>.error e | .ok j=>.ok ⟨j,d.ns,d.own,d.now⟩):=by
     have:=Zu.o;rw[if_neg cy]at this;exact this
    clear cy;go_wp2_with (go_at_call 72;refine(ahP.o _ yc.o Zv.o BO.o f2).mono ?_);rintro e w8 ⟨t1,t2,t3⟩
    cases MU with
    |error ec=>
     obtain⟨ec1,ec2⟩:=ec;obtain⟨F,rfl,hF⟩:=t2 ec1 ec2 rfl;have dS:=ae hF;have Fz:=ae (BO.o.trans t3);have QV:Hd (S=.error (ec1,ec2)):=aB.o;clear t1 t2 t3 hF;go_wp2;refine bodyPost_ret (results_tmp (t:=2) rfl _ _ _) rfl ?_;rw[QV.o];exact⟨fun d hh=>(by cases hh),fun c p hh=>(by cases hh;exact⟨F,rfl,dS.o⟩),Fz.o⟩
    |ok j8=>
     obtain⟨rfl,BF,Zw⟩:=t1 j8 rfl;have sD:=ae BF;have HT8:=ae Zw;have Fz:=ae (BO.o.trans t3);have QV:Hd (S=.ok ⟨j8,d.ns,d.own,d.now⟩):=aB.o;clear t1 t2 t3 BF Zw;go_wp2;refine bodyPost_ret (results_tmp (t:=2) rfl _ _ _) rfl ?_;rw[QV.o];exact⟨fun d hh=>(by cases hh;exact⟨rfl,sD.o,HT8.o⟩),fun c p hh=>(by cases hh),Fz.o⟩)
theorem GM{d:Sd}(L:Li l d)(j:Nat)(h1:d.i<=j)(h2:j<=l.length):Li l ⟨j,d.ns,d.own,d.now⟩ :=
 ⟨L.jt,L.rt,h2,by have:=L.nn;simp only[];omega,by have:=L.on;simp only[];omega⟩
theorem KN(l:List UInt8)(d d':Sd)(L:Li l d)(hi:d.i<l.length)(h:iH l d=.ok d'):Li l d'/\d.i<d'.i:=by
 obtain⟨i,ns,own,now⟩:=d;simp only[]at hi;rw[QN]at h;have b1:=jQ l i (by omega);have L':Li l ⟨bl l i,ns,own,now⟩:=GM L (bl l i) b1.1 b1.2;have mid:∀d1,(if nx l (bl l i)=91 then iw l ⟨bl l i,ns,own,now⟩ else if nx l (bl l i)=34\/bP (nx l (bl l i))=true then rdPair l ⟨bl l i,ns,own,now⟩ else .ok ⟨bl l i,ns,own,now⟩)=.ok d1->Li l d1/\bl l i<=d1.i:=fun d1 hh=>by
  split at hh
  ·rename_i hx;obtain⟨a,b⟩:=P5 l _ d1 L' (bD (l:=l) (i:=bl l i) (by rw[hx];decide)) hh;exact⟨a,Nat.le_of_lt b⟩
  ·split at hh
   ·obtain⟨a,b⟩:=PZ l _ d1 L' hh;exact⟨a,Nat.le_of_lt b⟩
   ·cases hh
    exact⟨L',Nat.le_refl _⟩
 cases hm:(if nx l (bl l i)=91 then iw l ⟨bl l i,ns,own,now⟩ else if nx l (bl l i)=34\/bP (nx l (bl l i))=true then rdPair l ⟨bl l i,ns,own,now⟩ else .ok ⟨bl l i,ns,own,now⟩) with
 |error e=>rw[hm]at h;cases h
 |ok d1=>
  rw[hm]at h;obtain⟨L1,h1⟩:=mid d1 hm;have h2:vg l d1 (bH l (bl l d1.i))=.ok d':=h;have b2:=jQ l d1.i L1.le;have c2:=Eu l (bl l d1.i) b2.2;unfold vg at h2;split at h2
  ·cases h2
  ·split at h2
   ·rename_i hx;have:=En hx
    cases h2
    exact⟨GM L1 _ (by omega) c2.2,by simp only[];omega⟩
   ·cases hq:must l (bH l (bl l d1.i)).2 10 with
    |error e=>rw[hq]at h2;cases h2
    |ok q=>
     rw[hq]at h2;obtain⟨m1,m2⟩:=yE l _ _ 10 (by decide) hq
     cases h2
     exact⟨GM L1 q (by omega) (by omega),by simp only[];omega⟩
theorem GN(l:List UInt8):Li l ⟨0,[⟨0,[],[],0,[],0⟩],[],0⟩:=by
 have hk:∀p,aA [(⟨0,[],[],0,[],0⟩:Tn)] p=[]:=fun p=>by
  unfold aA
  cases p with
  |zero=>rfl
  |succ p=>rfl
 refine⟨⟨⟨fun p p' q h=>?_,fun p q h=>?_,fun q h=>?_,fun p=>?_⟩,fun q hq=>?_,by simp,rfl⟩,rfl,Nat.zero_le _,by simp,by simp⟩
 ·rw[hk]at h;cases h
 ·rw[hk]at h;cases h
 ·cases h
 ·rw[hk];simp
 ·exfalso;unfold ay at hq
  cases q with
  |zero=>exact absurd (show(0:Int)=2 from hq) (by decide)
  |succ q=>exact absurd (show(-1:Int)=2 from hq) (by decide)
theorem ahQ:hold [(⟨0,[],[],0,[],0⟩:Tn)] []=fun _ _=>none:=by
 funext t k;unfold hold;have:aK [(⟨0,[],[],0,[],0⟩:Tn)] t k=none:=by
  rw[qI];unfold aA
  cases t with
  |zero=>rfl
  |succ t=>rfl
 rw[this];split<;>rfl
theorem ahR(w:World):Tr (((w.alloc (.cells #[.int .i64 0,.string ⟨#[]⟩,.string ⟨#[]⟩,.int .i64 0,.slice none 0 0,.int .i64 0] 63)).alloc (.map #[] 0)).alloc (.cells #[.slice (some ⟨w.heap.size,0,none⟩) 1 1,.map (some (w.heap.size+1)),.int .i64 0] 98)) w.heap.size (w.heap.size+2) [⟨0,[],[],0,[],0⟩] [] 0:=by
 obtain⟨w1,hw1⟩:=zN (w.alloc (.cells #[.int .i64 0,.string ⟨#[]⟩,.string ⟨#[]⟩,.int .i64 0,.slice none 0 0,.int .i64 0] 63));have n1:=heap_alloc_new w (.cells #[.int .i64 0,.string ⟨#[]⟩,.string ⟨#[]⟩,.int .i64 0,.slice none 0 0,.int .i64 0] 63);have s1:(w.alloc (.cells #[.int .i64 0,.string ⟨#[]⟩,.string ⟨#[]⟩,.int .i64 0,.slice none 0 0,.int .i64 0] 63)).heap.size=w.heap.size+1:=World.size_alloc _ _;rw[hw1]at n1 s1 ⊢;have m2:=HM.made w1;have g2:w1.grownBy (w1.alloc (.map #[] 0)) none:=World.grownBy_alloc _ _ _;have s2:(w1.alloc (.map #[] 0)).heap.size=w.heap.size+2:=by rw[World.size_alloc,s1]
 rw[s1]at m2;obtain⟨w2,hw2⟩:=zN (w1.alloc (.map #[] 0));rw[hw2]at m2 g2 s2 ⊢;have n3:=heap_alloc_new w2 (.cells #[.slice (some ⟨w.heap.size,0,none⟩) 1 1,.map (some (w.heap.size+1)),.int .i64 0] 98);have g3:w2.grownBy (w2.alloc (.cells #[.slice (some ⟨w.heap.size,0,none⟩) 1 1,.map (some (w.heap.size+1)),.int .i64 0] 98)) none:=World.grownBy_alloc _ _ _;rw[s2]at n3;have n1':=jr (jr n1 g2) g3;obtain⟨es,cc,hm⟩:=m2.map;refine⟨w.heap.size,1,w.heap.size+1,[.int .i64 0,.string ⟨#[]⟩,.string ⟨#[]⟩,.int .i64 0,.slice none 0 0,.int .i64 0],fun _=>.slice none 0 0,?_⟩;refine⟨n3,by omega,⟨rfl,Or.inr ⟨w.heap.size,1,_,rfl,Nat.le_refl _,n1',Nat.le_refl _,by unfold maxLen;omega,rfl,rfl⟩⟩,fun i hi=>?_,fun i hi=>?_,fun i j g hi hj h1 _=>?_,?_,by omega⟩
 ·have:i=0:=by simp at hi;omega
  subst this;exact⟨rfl,rfl,rfl,rfl,rfl,rfl⟩
 ·have:i=0:=by simp at hi;omega
  subst this;exact⟨rfl,Or.inl ⟨rfl,rfl⟩⟩
 ·cases h1
 ·rw[ahQ];exact(m2.mono (by simp)).block (g3.block _ (aG hm) (by simp))
theorem ahS(w:World):(Instr.makeMap 96 none).run prog w=.ok (.map (some w.heap.size)) (w.alloc (.map #[] 0)):=by kernel_rfl
theorem ahT(w:World):Calls prog 49 #[] w fun e w'=>e=.returned (.pointer (some ⟨w.heap.size+2,0,none⟩))/\Tr w' w.heap.size (w.heap.size+2) [⟨0,[],[],0,[],0⟩] [] 0/\w.grownBy w' none:=by
 have HT:=ae (ahR w);have hmk:=ahS (w.alloc (.cells #[.int .i64 0,.string ⟨#[]⟩,.string ⟨#[]⟩,.int .i64 0,.slice none 0 0,.int .i64 0] 63));rw[World.size_alloc]at hmk;go_enter func49,ntmps49;go_wp2;go_ret;exact⟨rfl,HT.o,ak (ak (World.grownBy_alloc _ _ none) (World.grownBy_alloc _ _ none)) (World.grownBy_alloc _ _ none)⟩
def KQ(ns:List Tn)(own:List Nat)(now:Nat):Rs Nat->Rs Sd
 | .error e=>.error e
 | .ok j=>.ok ⟨j,ns,own,now⟩
def yR(l:List UInt8)(ns:List Tn)(own:List Nat)(now:Nat):Rs Nat->Rs Sd
 | .error e=>.error e
 | .ok m=>if l.length<=m then .ok ⟨m,ns,own,now⟩ else KQ ns own now (must l m 10)
theorem ahU(l:List UInt8)(ns:List Tn)(own:List Nat)(now m:Nat)(h:m<l.length):yR l ns own now (.ok m)=KQ ns own now (must l m 10):=by
 show(if _ then _ else _)=_;rw[if_neg (by omega)]
theorem ahV(l:List UInt8)(ns:List Tn)(own:List Nat)(now m:Nat)(h:l.length<=m):yR l ns own now (.ok m)=.ok ⟨m,ns,own,now⟩:=by
 show(if _ then _ else _)=_;rw[if_pos h]
def KT(l:List UInt8):Rs Sd->Rs Sd
 | .error e=>.error e
 | .ok d=>yR l d.ns d.own d.now ((Except.bind (.ok d.i) fun i=>.ok (bl l i):Rs Nat).bind (jd l))
theorem ahW(l:List UInt8)(d:Sd):(if(bH l (bl l d.i)).1=false then .error (2,(bH l (bl l d.i)).2)
  else if nx l (bH l (bl l d.i)).2=-1 then .ok ⟨(bH l (bl l d.i)).2,d.ns,d.own,d.now⟩
  else KQ d.ns d.own d.now (must l (bH l (bl l d.i)).2 10):Rs Sd)=KT l (.ok d):=by
 show _=yR l d.ns d.own d.now (jd l (bl l d.i));unfold jd
 cases hc:(bH l (bl l d.i)).1 with
 |false=>rw[if_pos rfl,if_neg (by decide)];rfl
 |true=>
  rw[if_neg (by decide),if_pos rfl];show _=if _ then _ else _
  by_cases h:nx l (bH l (bl l d.i)).2=-1
  ·rw[if_pos h,if_pos (En h)]
  ·rw[if_neg h,if_neg (fun hh=>h (jF _ _ hh))]
theorem ahX(l:List UInt8)(d:Sd):iH l d=KT l (if nx l (bl l d.i)=91 then iw l ⟨bl l d.i,d.ns,d.own,d.now⟩ else if nx l (bl l d.i)=34\/bP (nx l (bl l d.i))=true then rdPair l ⟨bl l d.i,d.ns,d.own,d.now⟩ else .ok ⟨bl l d.i,d.ns,d.own,d.now⟩):=by
 unfold iH;simp only[];generalize (if nx l (bl l d.i)=91 then iw l ⟨bl l d.i,d.ns,d.own,d.now⟩ else if nx l (bl l d.i)=34\/bP (nx l (bl l d.i))=true then rdPair l ⟨bl l d.i,d.ns,d.own,d.now⟩ else .ok ⟨bl l d.i,d.ns,d.own,d.now⟩:Rs Sd)=X
 cases X with
 |error e=>rfl
 |ok d1=>
  rw[<-ahW];simp only[];split
  ·rfl
  ·split
   ·rfl
   ·cases must l (bH l (bl l d1.i)).2 10<;>rfl
theorem run_stop(p:UInt8->Bool):∀(l:List UInt8),(l.drop (l.takeWhile p).length).takeWhile p=[]
 | []=>rfl
 | c :: r=>by
  rw[List.takeWhile_cons]
  cases h:p c with
  |true=>simp only[if_true,List.length_cons,List.drop_succ_cons];exact run_stop p r
  |false=>simp[h]
theorem ahY(p:Int->Bool)(l:List UInt8)(i:Nat):toR p l (toR p l i)=toR p l i:=by
 have h:=run_stop (fun c=>p (c.toNat:Int)) (l.drop i);have e:runN (fun c=>p (c.toNat:Int)) l (i+runN (fun c=>p (c.toNat:Int)) l i)=0:=by
  unfold runN;rw[List.drop_drop]at h;rw[h];rfl
 unfold toR;rw[e];rfl
theorem ahZ(l:List UInt8)(i:Nat):bl l (bl l i)=bl l i:=ahY gu l i
theorem ah0(l:List UInt8)(d:Sd)(h34:¬nx l d.i=34)(hba:bP (nx l d.i)=false):rdPair l d=.error (2,d.i):=by
 have e:=mJ bP l d.i hba;have hk:dw l d.i=.error (2,d.i):=by unfold dw;rw[if_neg h34,if_pos e]
 unfold rdPair;rw[hk]
theorem ah1(l:List UInt8)(d:Sd):iH l d=KT l (if nx l (bl l d.i)=91 then iw l ⟨bl l d.i,d.ns,d.own,d.now⟩ else if ¬nx l (bl l d.i)=-1/\¬nx l (bl l d.i)=35/\¬nx l (bl l d.i)=10 then rdPair l ⟨bl l d.i,d.ns,d.own,d.now⟩ else .ok ⟨bl l d.i,d.ns,d.own,d.now⟩):=by
 rw[ahX]
 by_cases kP:nx l (bl l d.i)=91
 ·rw[if_pos kP,if_pos kP]
 ·rw[if_neg kP,if_neg kP]
  by_cases hp:nx l (bl l d.i)=34\/bP (nx l (bl l d.i))=true
  ·rw[if_pos hp,if_pos];refine⟨fun e=>?_,fun e=>?_,fun e=>?_⟩<;>(rw[e]at hp;revert hp;decide)
  ·rw[if_neg hp]
   by_cases ho:¬nx l (bl l d.i)=-1/\¬nx l (bl l d.i)=35/\¬nx l (bl l d.i)=10
   ·rw[if_pos ho,ah0 l ⟨bl l d.i,d.ns,d.own,d.now⟩ (fun e=>hp (Or.inl e)) (by cases hh:bP (nx l (bl l d.i));rfl;exact(hp (Or.inr hh)).elim)];show yR l d.ns d.own d.now (jd l (bl l (bl l d.i)))=.error (2,bl l d.i);rw[ahZ,Ug l _ ho.2.1];show(if _ then _ else _)=_;rw[if_neg (fun hh=>ho.1 (jF _ _ hh))];unfold must;rw[if_neg ho.2.2];rfl
   ·rw[if_neg ho]
def ah2(s:ByteArray)(E:Int->TypeId × Value)(r:Rs (List Tn))(w:World)(e:Ending)(w':World):Prop :=
 (∀ns,r=.ok ns->∃N c M T xs ks now n f,e=.returned (.tuple #[.slice (some ⟨N,0,none⟩) ns.length c,.nilIface])/\TrD w' w.heap.size T ns now N c M xs ks n f) ∧
 (∀c p,r=.error (c,p)->∃v,e=.returned (.tuple #[.slice none 0 0,v])/\((c=1/\v=.iface (E 1).1 (E 1).2)\/dD w' v E c p))/\w.grownBy w' none
theorem KU(l:List UInt8)(f:Nat)(d:Sd):jP l (f+1) d=if l.length<=d.i then .ok d else match iH l d with | .error e=>.error e | .ok d1=>jP l f d1:=rfl
theorem KW(h:Below w.heap.size w w'):w.grownBy w' none:=⟨h.os,h.tape,h.output,h.size,fun k hk _=>h.block k hk⟩
def ah3:Rs Sd->Rs (List Tn)
 | .error e=>.error e
 | .ok d=>.ok d.ns
theorem KX(l:List UInt8):lJ l=if 100000<l.length then .error (1,0) else ah3 (jP l (l.length+1) ⟨0,[⟨0,[],[],0,[],0⟩],[],0⟩):=by
 unfold lJ;split
 ·rfl
 ·cases jP l (l.length+1) ⟨0,[⟨0,[],[],0,[],0⟩],[],0⟩<;>rfl
theorem ah4(s:ByteArray)(E:Int->TypeId × Value)(w:World)(G:Gl w w.heap.size E)(hlo:w.cell? ⟨0,0,none⟩=some (.iface (E 1).1 (E 1).2))(hmx:s.size<2 ^ 62) :
  Calls prog 31 #[.string s] w (ah2 s E (lJ s.data.toList) w):=by
 have hl:s.data.toList.length=s.size:=by simp
 have QW:=ae (ahT w);have HE:=KX s.data.toList;rw[hl]at HE
 by_cases hbig:100000<s.size
 ·rw[if_pos hbig]at HE;rw[HE];have hb:(100000:Int)<(s.size:Int):=by omega
  have HR1:Hd (∀ty pv,(E 1).1=ty->(E 1).2=pv->True):=fun _ _ _ _=>trivial
  obtain⟨ty,hty⟩:=zN ((E 1).1);obtain⟨pv,hpv⟩:=zN ((E 1).2);have Zx:Hd ((E 1).1=ty/\(E 1).2=pv):=⟨hty,hpv⟩;rw[hty,hpv]at hlo;clear HE QW G hty hpv HR1 hbig;go_enter func31,ntmps31;go_wp2;go_quiet (fail);go_wp2;refine bodyPost_ret (results_tmp2 (t:=2) (u:=3) rfl _ _ _) rfl ?_;exact⟨fun ns hh=>(by cases hh),fun c p hh=>(by cases hh;exact⟨_,rfl,Or.inl ⟨rfl,by rw[Zx.o.1,Zx.o.2];rfl⟩⟩),az (ax w none) _⟩
 ·rw[if_neg hbig]at HE;rw[HE];have hb:(s.size:Int)<=100000:=by omega
  have hs:s.size<=100000:=by omega
  obtain⟨B,KZ⟩:=zN (w.heap.size);have CL:Hd (∀R T d wr,Rd wr R s d.i T->Tr wr B T d.ns d.own d.now->B<=R->Below B w wr->Li s.data.toList d->Calls prog 50 #[.pointer (some ⟨R,0,none⟩)] wr (sS B R T s E (iH s.data.toList d) wr)):=fun R T d wr h1 h2 h3 h4 h5=>ahN B R T s E d.own d.now d.i d.ns wr h1 h2 ((KZ ▸ G).bel h4) h3 hs h5
  have zI:=ae (fun d d' (a:Li s.data.toList d) (b:d.i<s.size) (c:iH s.data.toList d=.ok d')=>KN s.data.toList d d' a (by omega) c);obtain⟨S,hS⟩:=zN (jP s.data.toList (s.data.toList.length+1) ⟨0,[⟨0,[],[],0,[],0⟩],[],0⟩);have HS:=ae hS;rw[<-hl,hS];have fB:=ae KZ;rw[KZ]at QW;clear HE hbig hS G hlo KZ;go_enter func31,ntmps31;go_wp2_with (go_at_call 49;refine QW.o.mono ?_);rintro e w1 ⟨rfl,ht1,hg1⟩;obtain⟨R,hRe⟩:=zN (w1.heap.size);have jA:B<=R:=by have:=hg1.size;have:=fB.o;omega
  have hn:=heap_alloc_new w1 (.cells #[.string s,.int .i64 0,.pointer (some ⟨B+2,0,none⟩)] 94);rw[hRe]at hn;have hgR:=World.grownBy_alloc w1 (.cells #[.string s,.int .i64 0,.pointer (some ⟨B+2,0,none⟩)] 94) none;obtain⟨w2,hw2⟩:=zN (w1.alloc (.cells #[.string s,.int .i64 0,.pointer (some ⟨B+2,0,none⟩)] 94));rw[hw2]at hn hgR;have HR2:Hd (Rd w2 R s 0 (B+2)):=hn;have HT2:=ae (ht1.gb hgR);have HB2:Hd (Below B w w2):=oz (ak hg1 hgR) (by have:=fB.o;omega);clear hn hgR ht1 hg1;go_wp2;go_loopw [2,3] (fun v2 v3 wr=>v2=.slice none 0 0/\v3=.nilIface/\∃(d:Sd) (f:Nat),Rd wr R s d.i (B+2)/\Tr wr B (B+2) d.ns d.own d.now/\Li s.data.toList d/\Below B w wr/\jP s.data.toList f d=S/\s.size-d.i<f) (fun _ _ wr=>s.size-(match wr.cell? ⟨R,1,none⟩ with|some (.int _ k)=>k.toNat|_=>0))
  case atStart=>exact⟨rfl,rfl,⟨0,[⟨0,[],[],0,[],0⟩],[],0⟩,s.data.toList.length+1,HR2.o,HT2.o,GN _,HB2.o,HS.o,by simp⟩
  case round=>
   obtain⟨rfl,rfl,d,f,hrd,htr,GU,hbe,hra,hf⟩:=hrel;obtain⟨f,rfl⟩:∃f',f=f'+1:=⟨f-1,by omega⟩;rw[KU,hl]at hra;have hdl:d.i<=s.size:=by have:=GU.le;omega
   have lI:=ae hrd;have Jv:=ae htr;have Ak:=ae GU;have lQ:=ae hbe;have eY:Hd ((match wr.cell? ⟨R,1,none⟩ with|some (.int _ k)=>k.toNat|_=>0)=d.i):=by show _=_;rw[hrd.cells.2.1];simp
   obtain⟨c0,c1,c2,-⟩:=hrd.cells;obtain⟨k,hk⟩:=zN (d.i);rw[hk]at c1 hdl hf;have HKK:=ae hk
   by_cases hlt:k<s.size
   ·have hlt':(k:Int)<(s.size:Int):=by omega
    rw[if_neg (by omega)]at hra;have nG:=CL.o R (B+2) d wr hrd htr jA hbe GU;have zq:=zI.o d;obtain⟨LR,Zy⟩:=zN (iH s.data.toList d);rw[Zy]at nG zq hra;have Dp:=ae nG;have HL2:=ae zq;have EL:Hd (_=S):=hra;clear hrd htr GU hbe hra nG zq Zy hk;go_wp2_with (go_at_call 50;refine Dp.o.mono ?_);rintro e w3 ⟨p1,p2,p3⟩;have HB3:=ae (lQ.o.trans p3)
    cases LR with
    |error ec=>
     obtain⟨ec1,ec2⟩:=ec;obtain⟨F,rfl,hF⟩:=p2 ec1 ec2 rfl;have dS:=ae hF;have aB:Hd (S=.error (ec1,ec2)):=EL.o.symm;clear p1 p2 p3 hF c0 c1 c2;go_wp2;refine bodyPost_ret (results_tmp2 (t:=2) (u:=3) rfl _ _ _) rfl ?_;rw[aB.o];exact⟨fun ns hh=>(by cases hh),fun c p hh=>(by cases hh;exact⟨_,rfl,Or.inr dS.o⟩),KW (by rw[fB.o];exact HB3.o)⟩
    |ok d1=>
     obtain⟨rfl,hr3,ht3⟩:=p1 d1 rfl;have hkd:d.i<s.size:=by rw[HKK.o];exact hlt
     obtain⟨Zz,hgo⟩:=HL2.o d1 Ak.o hkd rfl;have HR3:=ae hr3;have HT3:=ae ht3;have vW:=ae Zz;have aB:Hd (jP s.data.toList f d1=S):=EL.o;have o6:=ae hgo;clear p1 p2 p3 hr3 ht3 Zz hgo c0 c1 c2;go_wp2;go_roundw
     case rel=>exact⟨rfl,rfl,d1,f,HR3.o,HT3.o,vW.o,HB3.o,aB.o,by have h1:=o6.o;have h2:=HKK.o;have h3:=vW.o.le;omega⟩
     case measure=>
      rw[eY.o,HR3.o.cells.2.1];have h1:=o6.o;have h2:=HKK.o;simp;omega
   ·have hkl:¬(k:Int)<(s.size:Int):=by omega
    rw[if_pos (by omega)]at hra;have aB:=ae hra.symm;have ah5:=htr;obtain⟨N,c,M,xs,ks,hD⟩:=ah5;have t0:=hD.cells.1;have HD:=ae hD;clear hrd htr GU hbe hra hk hD;go_wp2;refine bodyPost_ret (results_tmp2 (t:=2) (u:=3) rfl _ _ _) rfl ?_;rw[aB.o];exact⟨fun ns hh=>(by cases hh;exact⟨N,c,M,B+2,xs,ks,d.now,_,_,rfl,by rw[fB.o];exact HD.o⟩),fun c p hh=>(by cases hh),KW (by rw[fB.o];exact lQ.o)⟩
def NuS(w:World)(v:Value)(l:List Nat):Prop:=∃o c,v=.slice o l.length c/\∀i (hi:i<l.length),∃g,o=some ⟨g,0,none⟩/\w.cell? ⟨g,i,none⟩=some (.int .i64 (l[i]:Nat))
theorem NuS.of{l:List Nat}(h:w.ownsRow B 3 1 v l.length (l.map fun q=>.int .i64 (q:Nat))):NuS w v l:=by
 obtain⟨o,c,hv⟩:=nV h;refine⟨o,c,hv,fun i hi=>?_⟩;rw[hv]at h
 rcases h.2 with⟨e1,e2⟩|⟨g,cap,cur,e1,_⟩
 ·omega
 ·injection e1 with e1 _ _
  refine⟨g,e1,?_⟩;have:=h.cells (g:=g) (by rw[e1];rfl) i (.int .i64 (l[i]:Nat)) (by rw[List.getElem?_map,List.getElem?_eq_getElem hi];rfl);rw[uA]at this;exact this
def NoS(w:World)(v:Value)(ns:List Tn):Prop:=∃o c,v=.slice o ns.length c/\∀i (hi:i<ns.length),∃g k,o=some ⟨g,0,none⟩/\w.cell? ⟨g,i*6,none⟩=some (.int .i64 ns[i].kd)/\w.cell? ⟨g,i*6+1,none⟩=some (.string ⟨ns[i].ky.toArray⟩)/\w.cell? ⟨g,i*6+2,none⟩=some (.string ⟨ns[i].tx.toArray⟩)/\w.cell? ⟨g,i*6+3,none⟩=some (.int .i64 ns[i].nu)/\w.cell? ⟨g,i*6+4,none⟩=some k/\w.cell? ⟨g,i*6+5,none⟩=some (.int .i64 (ns[i].pl:Nat))/\NuS w k ns[i].ks
theorem NuS.grow{l:List Nat}(h:NuS w v l)(hg:w.grownBy w' none):NuS w' v l:=by
 obtain⟨o,c,hv,hc⟩:=h;refine⟨o,c,hv,fun i hi=>?_⟩;obtain⟨g,h1,h2⟩:=hc i hi;exact⟨g,h1,hg.cell h2 (by simp)⟩
theorem NoS.grow(h:NoS w v ns)(hg:w.grownBy w' none):NoS w' v ns:=by
 obtain⟨o,c,hv,hc⟩:=h;refine⟨o,c,hv,fun i hi=>?_⟩;obtain⟨g,k,e,h0,h1,h2,h3,h4,h5,h6⟩:=hc i hi;exact⟨g,k,e,hg.cell h0 (by simp),hg.cell h1 (by simp),hg.cell h2 (by simp),hg.cell h3 (by simp),hg.cell h4 (by simp),hg.cell h5 (by simp),h6.grow hg⟩
theorem QX(l:List UInt8):∀(f:Nat) (d d':Sd),Li l d->jP l f d=.ok d'->Li l d'
 | 0,d,d',L,h=>by cases h;exact L
 | f+1,d,d',L,h=>by
  rw[KU]at h;split at h
  ·cases h;exact L
  ·cases hr:iH l d with
   |error e=>rw[hr]at h;cases h
   |ok d1=>
    rw[hr]at h;exact QX l f d1 d' (KN l d d1 L (by omega) hr).1 h
theorem ZA(l:List UInt8)(ns:List Tn)(h:lJ l=.ok ns):∃own now,Jt ns own now/\ay ns 0=0/\ns.length<=200001/\l.length<=100000:=by
 rw[KX]at h;split at h
 ·cases h
 ·cases ha:jP l (l.length+1) ⟨0,[⟨0,[],[],0,[],0⟩],[],0⟩ with
  |error e=>rw[ha]at h;cases h
  |ok d=>
   rw[ha]at h;have L:=QX l _ _ _ (GN l) ha
   cases h
   have h1:=L.nn;have h2:=L.le;exact⟨d.own,d.now,L.jt,L.rt,by omega,by omega⟩
theorem QY(h:lJ l=.ok ns)(i:Nat)(hi:i<ns.length):ns[i].ks.length<=1000000:=by
 obtain⟨own,now,J,-,hn,-⟩:=ZA l ns h;have:=J.wf.len i;unfold aA at this;rw[List.getElem?_eq_getElem hi]at this;simp only[]at this;omega
theorem Gl.up{B':Nat}{E:Int->TypeId × Value}(h:Gl w B E)(hB:B<=B'):Gl w B' E :=
 ⟨h.es,⟨Nat.lt_of_lt_of_le h.lo.te hB,Nat.lt_of_lt_of_le h.lo.ra hB,Nat.lt_of_lt_of_le h.lo.ma hB,Nat.lt_of_lt_of_le h.lo.tw hB⟩,h.tabs,Nat.lt_of_lt_of_le h.t3 hB,Nat.lt_of_lt_of_le h.t4 hB⟩
def ErN(c:Int × Nat):Prop:=2<=c.1/\c.1<=5
def gp{α:Type}(r:Rs α):Prop:=∀c,r=.error c->ErN c
theorem gq{α:Type}(a:α):gp (.ok a:Rs α):=fun c h=>by cases h
theorem lY{α:Type}(p:Nat):gp (.error (2,p):Rs α):=fun c h=>by cases h;exact⟨(by decide:(2:Int)<=2),(by decide:(2:Int)<=5)⟩
theorem ah6{α:Type}(p:Nat):gp (.error (3,p):Rs α):=fun c h=>by cases h;exact⟨(by decide:(2:Int)<=3),(by decide:(3:Int)<=5)⟩
theorem ah7{α:Type}(p:Nat):gp (.error (4,p):Rs α):=fun c h=>by cases h;exact⟨(by decide:(2:Int)<=4),(by decide:(4:Int)<=5)⟩
theorem GV{α:Type}(p:Nat):gp (.error (5,p):Rs α):=fun c h=>by cases h;exact⟨(by decide:(2:Int)<=5),(by decide:(5:Int)<=5)⟩
theorem kQ{α β:Type}{r:Rs α}(h:gp r){c:Int × Nat}(hc:r=.error c):gp (.error c:Rs β):=fun c' h'=>by cases h';exact h c hc
theorem ZB(l:List UInt8):∀(k i n:Nat),gp (four l k i n)
 | 0,i,n=>gq _
 | k+1,i,n=>by
  rw[Ey];split
  ·exact lY _
  ·exact ZB l k _ _
theorem ah8(l:List UInt8)(i:Nat):gp (esc l i):=by
 unfold esc;split
 ·cases h:four l 4 (i+2) 0 with
  |error e=>exact kQ (ZB l 4 (i+2) 0) h
  |ok q=>
   obtain⟨n,j⟩:=q;simp only[];split
   ·exact lY _
   ·exact gq _
 ·repeat' split
  all_goals first|exact gq _|exact lY _
theorem La(l:List UInt8):∀(f i:Nat) (acc:List UInt8),gp (str l f i acc)
 | 0,i,acc=>lY _
 | f+1,i,acc=>by
  rw[EK];split
  ·exact gq _
  ·split
   ·cases h:esc l i with
    |error e=>exact kQ (ah8 l i) h
    |ok q=>
     obtain⟨b,j⟩:=q;exact La l f j _
   ·split
    ·exact lY _
    ·split
     ·exact lY _
     ·exact La l f _ _
theorem ZC(l:List UInt8)(i:Nat):gp (dw l i):=by
 unfold dw;split
 ·exact La _ _ _ _
 ·split
  ·exact lY _
  ·exact gq _
theorem ah9(l:List UInt8)(i:Nat):gp (ji l i):=by
 unfold ji;simp only[];generalize (if aI (nx l i)=true then i else i+1)=a;split
 ·exact lY _
 ·split
  ·exact ah6 _
  ·exact gq _
theorem aia(l:List UInt8)(i:Nat):gp (l7 l i):=by
 unfold l7;simp only[];split
 ·exact gq _
 ·split
  ·exact gq _
  ·exact lY _
theorem QZ(l:List UInt8):∀(f i:Nat),gp (gap l f i)
 | 0,i=>lY _
 | f+1,i=>by
  rw[vN];split
  ·exact lY _
  ·split
   ·exact QZ l f _
   ·exact gq _
theorem Lc(l:List UInt8)(i:Nat)(c:Int):gp (must l i c):=by
 unfold must;split
 ·exact gq _
 ·exact lY _
theorem aib(l:List UInt8):∀f:Nat,(∀i up k p d ns,gp (val l f i up k p d ns))/\(∀i up d ns,gp (lst l f i up d ns)):=by
 intro f
 induction f with
 |zero=>
  refine⟨fun i up k p d ns=>?_,fun i up d ns=>?_⟩
  ·rw[val];exact lY _
  ·rw[lst];exact lY _
 |succ f ih=>
  refine⟨fun i up k p d ns=>?_,fun i up d ns=>?_⟩
  ·rw[ut];split
   ·cases h:str l (l.length+1) (i+1) [] with
    |error e=>exact kQ (La _ _ _ _) h
    |ok q=>exact gq _
   ·split
    ·cases h:ji l i with
     |error e=>exact kQ (ah9 _ _) h
     |ok q=>exact gq _
    ·split
     ·cases h:l7 l i with
      |error e=>exact kQ (aia _ _) h
      |ok q=>exact gq _
     ·split
      ·split
       ·exact ah7 _
       ·exact ih.2 _ _ _ _
      ·exact lY _
  ·rw[ER]
   cases h:gap l (l.length+1) i with
   |error e=>exact kQ (QZ _ _ _) h
   |ok j=>
    simp only[];split
    ·exact gq _
    ·cases h2:val l f j up [] j d ns with
     |error e=>exact kQ (ih.1 _ _ _ _ _ _) h2
     |ok q=>
      obtain⟨j1,ns1⟩:=q;simp only[]
      cases h3:gap l (l.length+1) j1 with
      |error e=>exact kQ (QZ _ _ _) h3
      |ok j2=>
       simp only[];split
       ·exact ih.2 _ _ _ _
       ·split
        ·exact gq _
        ·exact lY _
theorem aic(ns:List Tn)(t:Nat)(k:List UInt8)(p:Nat):gp (gm ns t k p):=by
 unfold gm
 cases aK ns t k with
 |none=>exact gq _
 |some q=>
  simp only[];split
  ·exact gq _
  ·split
   ·cases ns[q]? with
    |none=>exact GV _
    |some u=>exact gq _
   ·exact GV _
theorem aid(ns:List Tn)(own:List Nat)(t:Nat)(k:List UInt8)(p:Nat):gp (gy ns own t k p):=by
 unfold gy
 cases aK ns t k with
 |none=>exact gq _
 |some q=>
  simp only[];split
  ·exact gq _
  ·exact GV _
theorem aie(ns:List Tn)(t:Nat)(k:List UInt8)(p:Nat):gp (gz ns t k p):=by
 unfold gz
 cases aK ns t k with
 |none=>exact gq _
 |some q=>
  simp only[];split
  ·exact gq _
  ·exact GV _
theorem ZE(many:Bool)(own:List Nat):∀(ks:List (List UInt8 × Nat)) (t:Nat) (ns:List Tn),gp (way many own ks t ns)
 | [],t,ns=>gq _
 | [(k,p)],t,ns=>by
  show gp (if many=true then gz ns t k p else gy ns own t k p);split
  ·exact aie _ _ _ _
  ·exact aid _ _ _ _ _
 | (k,p) :: x :: r,t,ns=>by
  show gp (match gm ns t k p with | .error e=>.error e | .ok (t1,ns1)=>way many own (x :: r) t1 ns1)
  cases h:gm ns t k p with
  |error e=>exact kQ (aic _ _ _ _) h
  |ok q=>
   obtain⟨t1,ns1⟩:=q;exact ZE many own (x :: r) t1 ns1
theorem ZF(l:List UInt8):∀(f i:Nat) (acc:List (List UInt8 × Nat)),gp (gV l f i acc)
 | 0,i,acc=>lY _
 | f+1,i,acc=>by
  show gp (match dw l (bl l i) with | .error e=>.error e | .ok (k,j)=>if nx l (bl l j)=46 then gV l f (bl l j+1) (acc++[(k,bl l i)]) else .ok (acc++[(k,bl l i)],bl l j))
  cases h:dw l (bl l i) with
  |error e=>exact kQ (ZC _ _) h
  |ok q=>
   obtain⟨k,j⟩:=q;simp only[];split
   ·exact ZF l f _ _
   ·exact gq _
theorem aif(l:List UInt8)(d:Sd):gp (iw l d):=by
 unfold iw;simp only[];generalize (if decide (nx l (d.i+1)=91)=true then d.i+2 else d.i+1)=a
 cases h:gV l (l.length+1) a [] with
 |error e=>exact kQ (ZF _ _ _ _) h
 |ok q=>
  obtain⟨ks,j⟩:=q;simp only[]
  cases h2:must l j 93 with
  |error e=>exact kQ (Lc _ _ _) h2
  |ok j1=>
   simp only[];have h3':gp (if decide (nx l (d.i+1)=91)=true then must l j1 93 else .ok j1):=by
    split
    ·exact Lc _ _ _
    ·exact gq _
   cases h3:(if decide (nx l (d.i+1)=91)=true then must l j1 93 else .ok j1) with
   |error e=>exact kQ h3' h3
   |ok j2=>
    simp only[]
    cases h4:way (decide (nx l (d.i+1)=91)) d.own ks 0 d.ns with
    |error e=>exact kQ (ZE _ _ _ _ _) h4
    |ok q=>exact gq _
theorem aig(l:List UInt8)(d:Sd):gp (rdPair l d):=by
 unfold rdPair
 cases h:dw l d.i with
 |error e=>exact kQ (ZC _ _) h
 |ok q=>
  obtain⟨k,j⟩:=q;simp only[]
  cases h2:must l (bl l j) 61 with
  |error e=>exact kQ (Lc _ _ _) h2
  |ok j1=>
   simp only[]
   cases aK d.ns d.now k with
   |some q=>exact GV _
   |none=>
    simp only[]
    cases h4:val l (2*l.length+2) (bl l j1) d.now k d.i 0 d.ns with
    |error e=>exact kQ ((aib l _).1 _ _ _ _ _ _) h4
    |ok q=>exact gq _
theorem aih(l:List UInt8)(d:Sd):gp (iH l d):=by
 unfold iH;simp only[];have hX:gp (if nx l (bl l d.i)=91 then iw l ⟨bl l d.i,d.ns,d.own,d.now⟩ else if nx l (bl l d.i)=34\/bP (nx l (bl l d.i))=true then rdPair l ⟨bl l d.i,d.ns,d.own,d.now⟩ else .ok ⟨bl l d.i,d.ns,d.own,d.now⟩):=by
  split
  ·exact aif _ _
  ·split
   ·exact aig _ _
   ·exact gq _
 generalize (if nx l (bl l d.i)=91 then iw l ⟨bl l d.i,d.ns,d.own,d.now⟩ else if nx l (bl l d.i)=34\/bP (nx l (bl l d.i))=true then rdPair l ⟨bl l d.i,d.ns,d.own,d.now⟩ else .ok ⟨bl l d.i,d.ns,d.own,d.now⟩:Rs Sd)=X at hX ⊢
 cases X with
 |error e=>exact kQ hX rfl
 |ok d1=>
  simp only[];split
  ·exact lY _
  ·split
   ·exact gq _
   ·cases h:must l (bH l (bl l d1.i)).2 10 with
    |error e=>exact kQ (Lc _ _ _) h
    |ok j=>exact gq _
theorem ZG(l:List UInt8):∀(f:Nat) (d:Sd),gp (jP l f d)
 | 0,d=>gq _
 | f+1,d=>by
  show gp (if l.length<=d.i then .ok d else match iH l d with | .error e=>.error e | .ok s1=>jP l f s1);split
  ·exact gq _
  ·cases h:iH l d with
   |error e=>exact kQ (aih _ _) h
   |ok d1=>exact ZG l f d1
theorem Q4(l:List UInt8)(c:Int)(p:Nat)(h:lJ l=.error (c,p)):(c=1/\p=0)\/(2<=c/\c<=5):=by
 unfold lJ at h;split at h
 ·cases h;exact Or.inl ⟨rfl,rfl⟩
 ·right
  cases hr:jP l (l.length+1) ⟨0,[⟨0,[],[],0,[],0⟩],[],0⟩ with
  |error e=>
   rw[hr]at h
   cases h
   exact ZG l _ _ _ hr
  |ok d=>rw[hr]at h;cases h
end Go.Proofs.YtbcfhgpfgdbjgaaGreatDoor
