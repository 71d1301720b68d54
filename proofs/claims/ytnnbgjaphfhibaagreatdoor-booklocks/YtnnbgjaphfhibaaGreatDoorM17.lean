import Derived.Test.YtnnbgjaphfhibaaGreatDoorM16
import Derived.Test.YtnnbgjaphfhibaaGreatDoorM14
set_option linter.unusedVariables false
set_option linter.unusedSimpArgs false
set_option maxRecDepth 100000
set_option maxHeartbeats 6400000
open Go.Proofs.Tryz
namespace Go.Proofs.YtnnbgjaphfhibaaGreatDoor
open Go.RowKit Go.Maps Go.WideMaps Go.Joins
theorem KyR.keepR{w w':World}{g R:Nat}{l:List (List UInt8 × Nat)}{s:ByteArray}{i T:Nat}(h:KyR w g l)(hr:Rd w R s i T)(hg:w.grownBy w' (some R)):KyR w' g l:=by
 obtain⟨cur,h1,h2⟩:=h;exact⟨cur,(hg.block g (aB h1) (by simp only[ne_eq,Option.some.injEq];exact aP h1 hr (by decide))).trans h1,h2⟩
theorem abp(B R T:Nat)(s:ByteArray)(E:Int->TypeId × Value)(own:List Nat)(now i:Nat)(ns:List Tn)(w:World)(h:Rd w R s i T)(htr:Tr w B T ns own now)(G:Gl w B E)(hR:B<=R)(hi:i<s.size)(hs:s.size<=100000)(J:Jt ns own now)(h0:ak ns 0=0)(hsz:ns.length+own.length+(s.size-i)<=700000) :
  Calls prog 105 #[.pointer (some ⟨R,0,none⟩)] w (mr B R T s E (gI s.data.toList ⟨i,ns,own,now⟩) w):=by
 have hl:s.data.toList.length=s.size:=by simp
 have hB:B<=w.heap.size:=htr.base;have CN:Hd (∀k w,Rd w R s k T->k<=s.size->Calls prog 104 #[.pointer (some ⟨R,0,none⟩)] w fun e w'=>e=.returned (.int .i64 (nx s.data.toList k))/\w.grownBy w' none):=fun k w h1 h2=>mV R s k T w h1 h2 (by omega)
 have CK:Hd (∀a w',Rd w' R s a T->w.grownBy w' (some R)->a<=s.size->Calls prog 148 #[.pointer (some ⟨R,0,none⟩)] w' (G5 R s T E (fP s.data.toList (s.data.toList.length+1) a []) w')):=fun a w' h1 hg ha=>abh R s a T B E w' h1 ha hs (G.gb hg hR hB) hR (Nat.le_trans hB hg.size)
 have CT:Hd (∀k w',Rd w' R s k T->w.grownBy w' (some R)->k<=s.size->Calls prog 109 #[.pointer (some ⟨R,0,none⟩),.int .i64 93] w' fun e w''=>(∃v,e=.returned v/\Hd ((∀q,must s.data.toList k 93=.ok q->v=.nilIface/\Rd w'' R s q T)/\(∀c p,must s.data.toList k 93=.error (c,p)->∃F,v=.iface 130 (.pointer (some ⟨F,0,none⟩))/\aV w'' v E c p)))/\w'.grownBy w'' (some R)):=fun k w' h1 hg hk =>
  (JX R s k T 93 (E 2).1 (E 2).2 w' h1 hk (by omega) (by decide) (G.gb hg hR hB).es.te).mono fun e w'' ⟨a1,a2,a3⟩=>by
   unfold must
   by_cases hx:nx s.data.toList k=93
   ·rw[if_pos hx];exact⟨⟨_,(a1 hx).1,fun q hq=>(by cases hq;exact⟨rfl,(a1 hx).2⟩),fun c p hp=>(by cases hp)⟩,a3⟩
   ·rw[if_neg hx];obtain⟨⟨v,e1,F,rfl,hF⟩,-⟩:=a2 hx;exact⟨⟨_,e1,fun q hq=>(by cases hq),fun c p hp=>(by cases hp;exact⟨F,rfl,F,rfl,hF⟩)⟩,a3⟩
 have CE:Hd (∀(many:Bool) ks d g c j w',ks.length=d+1->d+1<=c->d<=s.size-i->(∀x∈ks,x.1.length<=1048576)->KyR w' g ks->Rd w' R s j T->w.grownBy w' (some R)->Calls prog 149 #[.pointer (some ⟨T,0,none⟩),.slice (some ⟨g,0,none⟩) ks.length c,.bool many] w' fun e w''=>∃u,e=.returned u/\Hd (mr B R T s E (wM j own (way many own ks 0 ns)) w (.returned u) w'')):=fun many ks d g c j w' a1 a2 a3 a4 a5 a6 hg=>by
  rw[a1];exact(aaI B T ns own now E ks many g c d w' (htr.keepR h hg) ⟨J.wf,J.wt,by have:=J.lt;omega,h0⟩ a1 a2 a5 (by omega) a4 (G.gb hg hR hB).es G.lo).mono fun e w'' hv=>abo (kz hg hR hB) a6 hv
 have jR:Hd (∀a ks j,a<=s.size->fP s.data.toList (s.data.toList.length+1) a []=.ok (ks,j)->(∀x∈ks,x.1.length<=1048576)/\0<ks.length/\ks.length+a<=j/\j<=s.size):=fun a ks j ha hh=>by
  obtain⟨b1,b2,b3,b4⟩:=G6 s.data.toList _ a [] ks j (by omega) (by simp) hh;refine⟨fun x hx=>by have:=b1 x hx;omega,by simpa using b2,by simpa using b3,by omega⟩
 have oG:Hd (∀k q,must s.data.toList k 93=.ok q->q=k+1/\k<s.size):=fun k q a=>by
  unfold must at a;split at a
  ·rename_i hx;have:=bH (l:=s.data.toList) (i:=k) (by rw[hx];decide)
   cases a
   omega
  ·cases a
 have FD:Hd (nx s.data.toList (i+1)=91->i+1<s.size):=fun hx=>by
  have:=bH (l:=s.data.toList) (i:=i+1) (by rw[hx];decide);omega
 obtain⟨many,sO⟩:=zN (decide (nx s.data.toList (i+1)=91));have mD:=Dj s.data.toList i ns own now many sO;obtain⟨S,hS⟩:=zN (gI s.data.toList ⟨i,ns,own,now⟩);rw[hS]at mD ⊢;have HP:Hd (S=_):=mD;obtain⟨-,r1,-,rf⟩:=h.cells;have rf1:=rf 1;have HR1:Hd (Rd (w.setCell ⟨R,1,none⟩ (.int .i64 ((i:Int)+1))) R s (i+1) T):=h.set (i+1);have ay:Hd (w.grownBy (w.setCell ⟨R,1,none⟩ (.int .i64 ((i:Int)+1))) (some R)):=iM w R 1 _;have C1:Hd (Calls prog 104 #[.pointer (some ⟨R,0,none⟩)] (w.setCell ⟨R,1,none⟩ (.int .i64 ((i:Int)+1))) fun e w'=>e=.returned (.int .i64 (nx s.data.toList (i+1)))/\(w.setCell ⟨R,1,none⟩ (.int .i64 ((i:Int)+1))).grownBy w' none):=CN.o (i+1) _ HR1.o (by omega);obtain⟨x,hx⟩:=zN (nx s.data.toList (i+1));rw[hx]at C1 sO FD;have zH:Hd (decide (x=91)=many):=sO;clear mD hS hx sO h htr G J rf;go_enter func105,ntmps105
 go_wp2_with (go_at_call 104;refine C1.o.mono ?_);rintro e w1 ⟨rfl,hg1⟩;have MK:Hd (Rd w1 R s (i+1) T):=HR1.o.grow hg1;have zF:Hd (w.grownBy w1 (some R)):=aG ay.o hg1;clear hg1 r1 rf1
 cases many with
 | false =>
  have c91:¬x=91:=of_decide_eq_false zH.o;have e91:(x == 91)=false:=by simp[c91]
  clear c91;have Dk:Hd (∀w',Rd w' R s (i+1) T->w.grownBy w' (some R)->Calls prog 148 #[.pointer (some ⟨R,0,none⟩)] w' (G5 R s T E (fP s.data.toList (s.data.toList.length+1) (i+1) []) w')):=fun w' a b=>CK.o (i+1) w' a b (by omega)
  have yu:=jR.o (i+1);have lF:=HP.o;simp only[Bool.false_eq_true,if_false]at lF;obtain⟨KR,kQ⟩:=zN (fP s.data.toList (s.data.toList.length+1) (i+1) []);rw[kQ]at Dk yu lF;have Dl:Hd (∀ks j,(i+1)<=s.size->KR=.ok (ks,j)->(∀x∈ks,x.1.length<=1048576)/\0<ks.length/\ks.length+(i+1)<=j/\j<=s.size):=yu;have yw:Hd (S=_):=lF;clear yu lF kQ HP CK jR;go_wp2_with (go_at_call 148;refine(Dk.o _ MK.o zF.o).mono ?_);rintro e w2 ⟨p1,p2,p3⟩;have HG2:Hd (w.grownBy w2 (some R)):=dH zF.o p3
  cases KR with
  | error ec =>
   obtain⟨ec1,ec2⟩:=ec;obtain⟨F,rfl,hF⟩:=p2 ec1 ec2 rfl;have dU:Hd (aV w2 (.iface 130 (.pointer (some ⟨F,0,none⟩))) E ec1 ec2):=hF;have az:Hd (S=.error (ec1,ec2)):=yw.o;clear p1 p2 p3 hF;go_wp2;refine bodyPost_ret (results_tmp (t:=2) rfl _ _ _) rfl ?_;rw[az.o];exact⟨fun d hh=>(by cases hh),fun c p hh=>(by cases hh;exact⟨F,rfl,dU.o⟩),kz HG2.o hR hB⟩
  | ok q =>
   obtain⟨ks,j⟩:=q;obtain⟨g,c,rfl,hky,hkc,hr2⟩:=p1 ks j rfl;obtain⟨k1,k2,k3,k4⟩:=Dl.o ks j (by omega) rfl;have eY:Hd (KyR w2 g ks):=hky;have HR2:Hd (Rd w2 R s j T):=hr2;have zy:Hd (∀x∈ks,x.1.length<=1048576):=k1;have HP2:=yw.o
   try simp only[]at HP2
   have qY:=CT.o j;have lV:=oG.o j;obtain⟨MU,lN⟩:=zN (must s.data.toList j 93);rw[lN]at qY lV HP2;have Dn:Hd (∀w',Rd w' R s j T->w.grownBy w' (some R)->j<=s.size->Calls prog 109 #[.pointer (some ⟨R,0,none⟩),.int .i64 93] w' fun e w''=>(∃v,e=.returned v/\Hd ((∀q,MU=.ok q->v=.nilIface/\Rd w'' R s q T)/\(∀c p,MU=.error (c,p)->∃F,v=.iface 130 (.pointer (some ⟨F,0,none⟩))/\aV w'' v E c p)))/\w'.grownBy w'' (some R)):=qY;have Dp:Hd (∀q,MU=.ok q->q=j+1/\j<s.size):=lV;have qZ:Hd (S=_):=HP2;clear p1 p2 p3 hky hr2 k1 qY lV HP2 lN yw Dl;go_wp2_with (go_at_call 109;refine(Dn.o _ HR2.o HG2.o k4).mono ?_);rintro e w3 ⟨⟨v,rfl,hv⟩,hg3⟩;have aK:Hd (w.grownBy w3 (some R)):=dH HG2.o hg3;have jK:Hd (KyR w3 g ks):=eY.o.keepR HR2.o hg3;clear hg3
   cases MU with
   | error ec =>
    obtain⟨ec1,ec2⟩:=ec;obtain⟨F,rfl,hF⟩:=hv.o.2 ec1 ec2 rfl;have dU:Hd (aV w3 (.iface 130 (.pointer (some ⟨F,0,none⟩))) E ec1 ec2):=hF;have az:Hd (S=.error (ec1,ec2)):=qZ.o;clear hv hF;go_wp2;refine bodyPost_ret (results_tmp (t:=2) rfl _ _ _) rfl ?_;rw[az.o];exact⟨fun d hh=>(by cases hh),fun c p hh=>(by cases hh;exact⟨F,rfl,dU.o⟩),kz aK.o hR hB⟩
   | ok j1 =>
    obtain⟨rfl,hr3⟩:=hv.o.1 j1 rfl;obtain⟨m1,m2⟩:=Dp.o j1 rfl;have HR3:Hd (Rd w3 R s j1 T):=hr3;have sQ:=qZ.o
    try simp only[]at sQ
    clear hv hr3 qZ Dp Dn;have uz:S=wM j1 own (way false own ks 0 ns):=sQ;clear sQ;obtain⟨d,hd⟩:∃d,ks.length=d+1:=⟨ks.length-1,by omega⟩;have su:Hd (Calls prog 149 #[.pointer (some ⟨T,0,none⟩),.slice (some ⟨g,0,none⟩) ks.length c,.bool false] w3 fun e w''=>∃u,e=.returned u/\Hd (mr B R T s E S w (.returned u) w'')):=by
     rw[uz];exact CE.o false ks d g c j1 w3 hd (by omega) (by omega) zy.o jK.o HR3.o aK.o
    obtain⟨-,-,rr,-⟩:=HR3.o.cells;clear uz CE hd;go_wp2_with (go_at_call 149;refine su.o.mono ?_;rintro e w9 ⟨u,rfl,hu⟩);refine bodyPost_ret (results_tmp (t:=2) rfl _ _ _) rfl ?_;exact hu.o
 | true =>
  have c91:x=91:=of_decide_eq_true zH.o;have e91:(x == 91)=true:=by simp[c91]
  have hx1:=FD.o c91;obtain⟨-,s1,-,sf⟩:=MK.o.cells;have sf1:=sf 1;have e2:((i+1:Nat):Int)+1=((i+2:Nat):Int):=by omega
  have HRb:Hd (Rd (w1.setCell ⟨R,1,none⟩ (.int .i64 (((i+1:Nat):Int)+1))) R s (i+2) T):=MK.o.set (i+2);have TV:Hd (w.grownBy (w1.setCell ⟨R,1,none⟩ (.int .i64 (((i+1:Nat):Int)+1))) (some R)):=aQ zF.o 1 _;clear c91 sf e2;have Dk:Hd (∀w',Rd w' R s (i+2) T->w.grownBy w' (some R)->Calls prog 148 #[.pointer (some ⟨R,0,none⟩)] w' (G5 R s T E (fP s.data.toList (s.data.toList.length+1) (i+2) []) w')):=fun w' a b=>CK.o (i+2) w' a b (by omega)
  have yu:=jR.o (i+2);have lF:=HP.o;simp only[if_true]at lF;obtain⟨KR,kQ⟩:=zN (fP s.data.toList (s.data.toList.length+1) (i+2) []);rw[kQ]at Dk yu lF;have Dl:Hd (∀ks j,(i+2)<=s.size->KR=.ok (ks,j)->(∀x∈ks,x.1.length<=1048576)/\0<ks.length/\ks.length+(i+2)<=j/\j<=s.size):=yu;have yw:Hd (S=_):=lF;clear yu lF kQ HP CK jR;go_wp2_with (go_at_call 148;refine(Dk.o _ HRb.o TV.o).mono ?_);rintro e w2 ⟨p1,p2,p3⟩;have HG2:Hd (w.grownBy w2 (some R)):=dH TV.o p3
  cases KR with
  | error ec =>
   obtain⟨ec1,ec2⟩:=ec;obtain⟨F,rfl,hF⟩:=p2 ec1 ec2 rfl;have dU:Hd (aV w2 (.iface 130 (.pointer (some ⟨F,0,none⟩))) E ec1 ec2):=hF;have az:Hd (S=.error (ec1,ec2)):=yw.o;clear p1 p2 p3 hF;go_wp2;refine bodyPost_ret (results_tmp (t:=2) rfl _ _ _) rfl ?_;rw[az.o];exact⟨fun d hh=>(by cases hh),fun c p hh=>(by cases hh;exact⟨F,rfl,dU.o⟩),kz HG2.o hR hB⟩
  | ok q =>
   obtain⟨ks,j⟩:=q;obtain⟨g,c,rfl,hky,hkc,hr2⟩:=p1 ks j rfl;obtain⟨k1,k2,k3,k4⟩:=Dl.o ks j (by omega) rfl;have eY:Hd (KyR w2 g ks):=hky;have HR2:Hd (Rd w2 R s j T):=hr2;have zy:Hd (∀x∈ks,x.1.length<=1048576):=k1;have HP2:=yw.o
   try simp only[]at HP2
   have qY:=CT.o j;have lV:=oG.o j;obtain⟨MU,lN⟩:=zN (must s.data.toList j 93);rw[lN]at qY lV HP2;have Dn:Hd (∀w',Rd w' R s j T->w.grownBy w' (some R)->j<=s.size->Calls prog 109 #[.pointer (some ⟨R,0,none⟩),.int .i64 93] w' fun e w''=>(∃v,e=.returned v/\Hd ((∀q,MU=.ok q->v=.nilIface/\Rd w'' R s q T)/\(∀c p,MU=.error (c,p)->∃F,v=.iface 130 (.pointer (some ⟨F,0,none⟩))/\aV w'' v E c p)))/\w'.grownBy w'' (some R)):=qY;have Dp:Hd (∀q,MU=.ok q->q=j+1/\j<s.size):=lV;have qZ:Hd (S=_):=HP2;clear p1 p2 p3 hky hr2 k1 qY lV HP2 lN yw Dl;go_wp2_with (go_at_call 109;refine(Dn.o _ HR2.o HG2.o k4).mono ?_);rintro e w3 ⟨⟨v,rfl,hv⟩,hg3⟩;have aK:Hd (w.grownBy w3 (some R)):=dH HG2.o hg3;have jK:Hd (KyR w3 g ks):=eY.o.keepR HR2.o hg3;clear hg3
   cases MU with
   | error ec =>
    obtain⟨ec1,ec2⟩:=ec;obtain⟨F,rfl,hF⟩:=hv.o.2 ec1 ec2 rfl;have dU:Hd (aV w3 (.iface 130 (.pointer (some ⟨F,0,none⟩))) E ec1 ec2):=hF;have az:Hd (S=.error (ec1,ec2)):=qZ.o;clear hv hF;go_wp2;refine bodyPost_ret (results_tmp (t:=2) rfl _ _ _) rfl ?_;rw[az.o];exact⟨fun d hh=>(by cases hh),fun c p hh=>(by cases hh;exact⟨F,rfl,dU.o⟩),kz aK.o hR hB⟩
   | ok j1 =>
    obtain⟨rfl,hr3⟩:=hv.o.1 j1 rfl;obtain⟨m1,m2⟩:=Dp.o j1 rfl;have HR3:Hd (Rd w3 R s j1 T):=hr3;have sQ:=qZ.o
    try simp only[]at sQ
    clear hv hr3 qZ Dp Dn;have uy:=CT.o j1;have lW:=oG.o j1;obtain⟨MV,TW⟩:=zN (must s.data.toList j1 93);rw[TW]at uy lW sQ;have GY:Hd (∀w',Rd w' R s j1 T->w.grownBy w' (some R)->j1<=s.size->Calls prog 109 #[.pointer (some ⟨R,0,none⟩),.int .i64 93] w' fun e w''=>(∃v,e=.returned v/\Hd ((∀q,MV=.ok q->v=.nilIface/\Rd w'' R s q T)/\(∀c p,MV=.error (c,p)->∃F,v=.iface 130 (.pointer (some ⟨F,0,none⟩))/\aV w'' v E c p)))/\w'.grownBy w'' (some R)):=uy;have ML:Hd (S=_):=sQ;clear uy lW sQ TW CT;go_wp2_with (go_at_call 109;refine(GY.o _ HR3.o aK.o (by omega)).mono ?_);rintro e w4 ⟨⟨v,rfl,hv⟩,hg4⟩;have dS:Hd (w.grownBy w4 (some R)):=dH aK.o hg4;have mO:Hd (KyR w4 g ks):=jK.o.keepR HR3.o hg4;clear hg4
    cases MV with
    | error ec =>
     obtain⟨ec1,ec2⟩:=ec;obtain⟨F,rfl,hF⟩:=hv.o.2 ec1 ec2 rfl;have dU:Hd (aV w4 (.iface 130 (.pointer (some ⟨F,0,none⟩))) E ec1 ec2):=hF;have az:Hd (S=.error (ec1,ec2)):=ML.o;clear hv hF;go_wp2;refine bodyPost_ret (results_tmp (t:=2) rfl _ _ _) rfl ?_;rw[az.o];exact⟨fun d hh=>(by cases hh),fun c p hh=>(by cases hh;exact⟨F,rfl,dU.o⟩),kz dS.o hR hB⟩
    | ok j2 =>
     obtain⟨rfl,hr4⟩:=hv.o.1 j2 rfl;have HR4:Hd (Rd w4 R s j2 T):=hr4;have uz:S=wM j2 own (way true own ks 0 ns):=ML.o;clear hv hr4 ML GY;obtain⟨d,hd⟩:∃d,ks.length=d+1:=⟨ks.length-1,by omega⟩;have su:Hd (Calls prog 149 #[.pointer (some ⟨T,0,none⟩),.slice (some ⟨g,0,none⟩) ks.length c,.bool true] w4 fun e w''=>∃u,e=.returned u/\Hd (mr B R T s E S w (.returned u) w'')):=by
      rw[uz];exact CE.o true ks d g c j2 w4 hd (by omega) (by omega) zy.o mO.o HR4.o dS.o
     obtain⟨-,-,rr,-⟩:=HR4.o.cells;clear uz CE hd;go_wp2_with (go_at_call 149;refine su.o.mono ?_;rintro e w9 ⟨u,rfl,hu⟩);refine bodyPost_ret (results_tmp (t:=2) rfl _ _ _) rfl ?_;exact hu.o
open Go.RowKit Go.Joins
theorem Du(ns:List Tn)(up:Nat)(n:Tn)(q:Nat)(hu:up<ns.length)(hq:q<ns.length):ak (addN ns up n) q=ak ns q:=by rw[fA ns up n hu,if_neg (by omega)]
theorem abq{ns ns':List Tn}{own:List Nat}{t t' p:Nat}{k:List UInt8}(J:Jt ns own t)(h:fO ns t k p=.ok (t',ns'))(q:Nat)(hq:q<ns.length):ak ns' q=ak ns q:=by
 unfold fO at h
 cases hk:ai ns t k with
 | none =>
  rw[hk]at h
  cases h
  exact Du ns t _ q J.lt hq
 | some x =>
  rw[hk]at h;simp only[]at h;split at h
  ·cases h;rfl
  ·split at h
   ·cases hx:ns[x]? with
    | none=>rw[hx]at h;cases h
    | some u=>rw[hx]at h;cases h;rfl
   ·cases h
theorem abr{ns ns':List Tn}{own:List Nat}{t t' p:Nat}{k:List UInt8}(J:Jt ns own t)(h:gm ns own t k p=.ok (t',ns'))(q:Nat)(hq:q<ns.length):ak ns' q=ak ns q:=by
 unfold gm at h
 cases hk:ai ns t k with
 | none =>
  rw[hk]at h
  cases h
  exact Du ns t _ q J.lt hq
 | some x =>
  rw[hk]at h;simp only[]at h;split at h
  ·cases h;rfl
  ·cases h
theorem abt{ns ns':List Tn}{own:List Nat}{t t' p:Nat}{k:List UInt8}(J:Jt ns own t)(h:gp ns t k p=.ok (t',ns'))(q:Nat)(hq:q<ns.length):ak ns' q=ak ns q:=by
 unfold gp at h
 cases hk:ai ns t k with
 | none =>
  rw[hk]at h
  cases h
  rw[Du _ _ _ q (by rw[dh];omega) (by rw[dh];omega),Du _ _ _ q J.lt hq]
 | some x =>
  rw[hk]at h;simp only[]at h;split at h
  ·rename_i h2
   cases h
   exact Du ns x _ q (nM h2 (by omega)) hq
  ·cases h
theorem TZ(many:Bool)(own:List Nat):∀(l:List (List UInt8 × Nat)) (t:Nat) (ns ns':List Tn) (t':Nat),Jt ns own t->way many own l t ns=.ok (t',ns')->∀q,q<ns.length->ak ns' q=ak ns q
 | [],t,ns,ns',t',J,h,q,hq=>by cases h;rfl
 | [(k,p)],t,ns,ns',t',J,h,q,hq=>by
  rw[A7]at h;split at h
  ·exact abt J h q hq
  ·exact abr J h q hq
 | (k,p) :: b :: r,t,ns,ns',t',J,h,q,hq=>by
  rw[A8]at h
  cases hs:fO ns t k p with
  | error e=>rw[hs]at h;cases h
  | ok z =>
   obtain⟨t1,ns1⟩:=z;rw[hs]at h;obtain⟨a,b',c⟩:=AZ J hs;exact(TZ many own (b :: r) t1 ns1 ns' t' a h q (by omega)).trans (abq J hs q hq)
structure Li(l:List UInt8)(d:Sd):Prop where
 jt:Jt d.ns d.own d.now
 rt:ak d.ns 0=0
 le:d.i<=l.length
 nn:d.ns.length<=2*d.i+1
 on:d.own.length<=d.i
theorem wO(l:List UInt8)(k q:Nat)(c:Int)(hc:0<=c)(h:must l k c=.ok q):q=k+1/\k<l.length:=by
 unfold must at h;split at h
 ·rename_i hx;have:=bH (l:=l) (i:=k) (by omega)
  cases h
  omega
 ·cases h
theorem MM(l:List UInt8)(d d':Sd)(L:Li l d)(h:rdPair l d=.ok d'):Li l d'/\d.i<d'.i:=by
 obtain⟨i,ns,own,now⟩:=d;have L1:=L.jt;have L2:=L.rt;have L3:=L.le;have L4:=L.nn;have L5:=L.on;simp only[]at L1 L2 L3 L4 L5;rw[Me]at h
 cases hk:bY l i with
 | error e=>rw[hk]at h;cases h
 | ok q =>
  obtain⟨k,j⟩:=q;rw[hk]at h;simp only[]at h;obtain⟨k1,k2,k3⟩:=ww l i k j L3 hk;have b1:=jP l j k2
  cases hm:must l (bl l j) 61 with
  | error e=>rw[hm]at h;cases h
  | ok j1 =>
   rw[hm]at h;simp only[]at h;obtain⟨m1,m2⟩:=wO l _ _ 61 (by decide) hm;have b2:=jP l j1 (by omega)
   cases hq:ai ns now k with
   | some q=>rw[hq]at h;cases h
   | none =>
    rw[hq]at h;simp only[]at h
    cases hv:val l (2*l.length+2) (bl l j1) now k i 0 ns with
    | error e=>rw[hv]at h;cases h
    | ok z =>
     obtain⟨j2,ns'⟩:=z;rw[hv]at h;have A:=(GG l own _).1 (bl l j1) now k i 0 ns j2 ns' b2.2 L1.wf L1.wt L1.lt (by rw[L1.kd];decide) hv;have a1:=A.lo;have a2:=A.hi;have a3:=A.fw;have a4:=A.en;have hlt:=L1.lt
     cases h
     exact⟨⟨⟨A.wf,A.wt,by simp only[];omega,(A.kd now L1.lt).trans L1.kd⟩,(A.kd 0 (by omega)).trans L2,a4,by simp only[];omega,by simp only[];omega⟩,by simp only[];omega⟩
theorem MO(l:List UInt8)(d d':Sd)(L:Li l d)(hi:d.i<l.length)(h:gI l d=.ok d'):Li l d'/\d.i<d'.i:=by
 obtain⟨i,ns,own,now⟩:=d;have L1:=L.jt;have L2:=L.rt;have L3:=L.le;have L4:=L.nn;have L5:=L.on;simp only[]at L1 L2 L3 L4 L5 hi;obtain⟨many,sO⟩:=zN (decide (nx l (i+1)=91));rw[Dj l i ns own now many sO]at h;have ha:i+1<=(if many=true then i+2 else i+1)/\(if many=true then i+2 else i+1)<=l.length:=by
  cases many with
  | false=>simp;omega
  | true =>
   have hx:=of_decide_eq_true sO;have:=bH (l:=l) (i:=i+1) (by rw[hx];decide);simp;omega
 generalize (if many=true then i+2 else i+1)=a at h ha
 cases hk:fP l (l.length+1) a [] with
 | error e=>rw[hk]at h;cases h
 | ok q =>
  obtain⟨ks,j⟩:=q;rw[hk]at h;simp only[]at h;obtain⟨k1,k2,k3,k4⟩:=G6 l _ a [] ks j ha.2 (by simp) hk;simp at k2 k3
  cases hm:must l j 93 with
  | error e=>rw[hm]at h;cases h
  | ok j1 =>
   rw[hm]at h;simp only[]at h;obtain⟨m1,m2⟩:=wO l _ _ 93 (by decide) hm;have hj2:∀j2,(if many=true then must l j1 93 else(.ok j1:Rs Nat))=.ok j2->j1<=j2/\j2<=l.length:=fun j2 hh=>by
    split at hh
    ·obtain⟨n1,n2⟩:=wO l _ _ 93 (by decide) hh;omega
    ·cases hh
     omega
   cases hc:(if many=true then must l j1 93 else(.ok j1:Rs Nat)) with
   | error e=>rw[hc]at h;cases h
   | ok j2 =>
    rw[hc]at h;simp only[]at h;obtain⟨c1,c2⟩:=hj2 j2 hc
    cases hw:way many own ks 0 ns with
    | error e=>rw[hw]at h;cases h
    | ok z =>
     obtain⟨t,ns'⟩:=z;rw[hw]at h;have hlt:=L1.lt;have J0:Jt ns own 0:=⟨L1.wf,L1.wt,by omega,L2⟩;obtain⟨w1,w2,w3⟩:=QA many own ks 0 ns ns' t (by intro e;rw[e]at k2;simp at k2) J0 hw;have w4:=TZ many own ks 0 ns ns' t J0 hw 0 (by omega)
     cases h
     exact⟨⟨w1,w4.trans L2,c2,by simp only[];omega,by simp only[List.length_cons];omega⟩,by simp only[];omega⟩
open Go.RowKit Go.Maps Go.WideMaps Go.Joins
def rq(l:List UInt8)(d:Sd)(c:Bool × Nat):Rs Sd :=
 if c.1=false then .error (2,c.2)
 else if nx l c.2=-1 then .ok ⟨c.2,d.ns,d.own,d.now⟩
 else match must l c.2 10 with
  | .error e=>.error e
  | .ok j=>.ok ⟨j,d.ns,d.own,d.now⟩
def MP(l:List UInt8):Rs Sd->Rs Sd
 | .error e=>.error e
 | .ok d=>rq l d (bu l (bl l d.i))
theorem MQ(l:List UInt8)(i:Nat)(ns:List Tn)(own:List Nat)(now:Nat):iR l ⟨i,ns,own,now⟩=MP l (if nx l (bl l i)=91 then gI l ⟨bl l i,ns,own,now⟩ else if nx l (bl l i)=34\/aO (nx l (bl l i))=true then rdPair l ⟨bl l i,ns,own,now⟩ else .ok ⟨bl l i,ns,own,now⟩):=by
 unfold iR;simp only[]
 cases (if nx l (bl l i)=91 then gI l ⟨bl l i,ns,own,now⟩ else if nx l (bl l i)=34\/aO (nx l (bl l i))=true then rdPair l ⟨bl l i,ns,own,now⟩ else .ok ⟨bl l i,ns,own,now⟩) with
 | error e=>rfl
 | ok d=>rfl
theorem abu(B R T:Nat)(s:ByteArray)(E:Int->TypeId × Value)(own:List Nat)(now i:Nat)(ns:List Tn)(w:World)(h:Rd w R s i T)(htr:Tr w B T ns own now)(G:Gl w B E)(hR:B<=R)(hs:s.size<=100000)(L:Li s.data.toList ⟨i,ns,own,now⟩) :
  Calls prog 72 #[.pointer (some ⟨R,0,none⟩)] w (mr B R T s E (iR s.data.toList ⟨i,ns,own,now⟩) w):=by
 have hl:s.data.toList.length=s.size:=by simp
 have hB:B<=w.heap.size:=htr.base;have hi:i<=s.size:=by have:=L.le;simp only[]at this;omega
 have CN:Hd (∀k w,Rd w R s k T->k<=s.size->Calls prog 104 #[.pointer (some ⟨R,0,none⟩)] w fun e w'=>e=.returned (.int .i64 (nx s.data.toList k))/\w.grownBy w' none):=fun k w h1 h2=>mV R s k T w h1 h2 (by omega)
 have CB:Hd (∀c w,Calls prog 106 #[.int .i64 c] w fun e w'=>e=.returned (.bool (aO c))/\w'=w):=QX;have CS:Hd (∀k w,Rd w R s k T->k<=s.size->Calls prog 103 #[.pointer (some ⟨R,0,none⟩)] w fun e w'=>e=.returned (.tuple #[])/\Rd w' R s (bl s.data.toList k) T/\w.grownBy w' (some R)):=fun k w h1 h2=>Fg R s k T w h1 h2 (by omega)
 have CC:Hd (∀k w',Rd w' R s k T->Below B w w'->k<=s.size->Calls prog 108 #[.pointer (some ⟨R,0,none⟩)] w' (Be R s T (E 2).1 (E 2).2 (bu s.data.toList k) w')):=fun k w' h1 hb hk=>QD R s k T (E 2).1 (E 2).2 w' h1 hk (by omega) (G.bel hb).es.te (zA G.lo hR).te
 have CT:Hd (∀k ns own now w',Rd w' R s k T->Tr w' B T ns own now->Below B w w'->k<=s.size->Calls prog 109 #[.pointer (some ⟨R,0,none⟩),.int .i64 10] w' (zD B R T s E own now ns (must s.data.toList k 10) w')):=fun k ns own now w' h1 h2 hb hk=>Tm B R T s E own now k 10 (by decide) ns w' h1 h2 (G.bel hb) hR hk hs
 have fQ:Hd (∀k,k<=s.size->k<=bl s.data.toList k/\bl s.data.toList k<=s.size):=fun k hk=>by rw[<-hl];exact jP _ k (by omega)
 have HCM:Hd (∀k,k<=s.size->k<=(bu s.data.toList k).2/\(bu s.data.toList k).2<=s.size):=fun k hk=>by rw[<-hl];exact Bh _ k (by omega)
 obtain⟨b1,b2⟩:=fQ.o i hi;have C1:=CS.o i w h hi;have mD:=MQ s.data.toList i ns own now;obtain⟨j,hj⟩:=zN (bl s.data.toList i);rw[hj]at C1 b1 b2 mD;have L':Li s.data.toList ⟨j,ns,own,now⟩:=⟨L.jt,L.rt,by simp only[];omega,by have:=L.nn;simp only[]at this ⊢;omega,by have:=L.on;simp only[]at this ⊢;omega⟩;have wP:Hd (nx s.data.toList j=91->∀w',Rd w' R s j T->Tr w' B T ns own now->Below B w w'->Calls prog 105 #[.pointer (some ⟨R,0,none⟩)] w' (mr B R T s E (gI s.data.toList ⟨j,ns,own,now⟩) w')):=fun hx w' h1 h2 hb=>abp B R T s E own now j ns w' h1 h2 (G.bel hb) hR (by have:=bH (l:=s.data.toList) (i:=j) (by rw[hx];decide);omega) hs L'.jt L'.rt (by have:=L'.nn;have:=L'.on;simp only[]at *;omega)
 have G7:Hd (∀w',Rd w' R s j T->Tr w' B T ns own now->Below B w w'->Calls prog 107 #[.pointer (some ⟨R,0,none⟩)] w' (mr B R T s E (rdPair s.data.toList ⟨j,ns,own,now⟩) w')):=fun w' h1 h2 hb=>aa9 B R T s E own now j ns w' h1 h2 (G.bel hb) hR b2 hs L'.jt (by have:=L'.nn;have:=L'.on;simp only[]at *;omega)
 have zL:Hd (nx s.data.toList j=91->∀d,gI s.data.toList ⟨j,ns,own,now⟩=.ok d->d.i<=s.size):=fun hx d hd=>by
  have:=(MO s.data.toList _ d L' (bH (l:=s.data.toList) (i:=j) (by rw[hx];decide)) hd).1.le;omega
 have eG:Hd (∀d,rdPair s.data.toList ⟨j,ns,own,now⟩=.ok d->d.i<=s.size):=fun d hd=>by
  have:=(MM s.data.toList _ d L' hd).1.le;omega
 obtain⟨S,hS⟩:=zN (iR s.data.toList ⟨i,ns,own,now⟩);rw[hS]at mD ⊢;obtain⟨HD,Ua⟩:=zN (gI s.data.toList ⟨j,ns,own,now⟩);obtain⟨PR,oO⟩:=zN (rdPair s.data.toList ⟨j,ns,own,now⟩);rw[Ua]at mD wP zL;rw[oO]at mD G7 eG;obtain⟨x,hx⟩:=zN (nx s.data.toList j);rw[hx]at mD wP zL;have HP:Hd (S=_):=mD;have yj:Hd (Calls prog 103 #[.pointer (some ⟨R,0,none⟩)] w fun e w'=>e=.returned (.tuple #[])/\Rd w' R s j T/\w.grownBy w' (some R)):=C1;have C2:Hd (∀w',Rd w' R s j T->Calls prog 104 #[.pointer (some ⟨R,0,none⟩)] w' fun e w''=>e=.returned (.int .i64 x)/\w'.grownBy w'' none):=fun w' hh=>by rw[<-hx];exact CN.o j w' hh b2
 have nD:Hd (Tr w B T ns own now):=htr;have H0:Hd (Rd w R s i T):=h;clear mD hS Ua oO hx hj C1 h htr G L L';go_enter func72,ntmps72;go_wp2_with (go_at_call 103;refine yj.o.mono ?_);rintro e w1 ⟨rfl,hr1,hg1⟩;have HR1:Hd (Rd w1 R s j T):=hr1;have HB1:Hd (Below B w w1):=kz hg1 hR hB;have HT1:Hd (Tr w1 B T ns own now):=nD.o.keepR H0.o hg1;clear hr1 hg1;go_wp2_with (go_at_call 104;refine(C2.o _ HR1.o).mono ?_);rintro e w2 ⟨rfl,hg2⟩;have HR2:Hd (Rd w2 R s j T):=HR1.o.grow hg2;have HB2:Hd (Below B w w2):=HB1.o.trans (nG hg2 HT1.o.base);have HT2:Hd (Tr w2 B T ns own now):=HT1.o.gb hg2;clear hg2;have hcs:x=91\/(¬x=91/\x=34)\/(¬x=91/\¬x=34/\aO x=true)\/(¬x=91/\¬x=34/\aO x=false):=by
  by_cases a:x=91
  ·exact .inl a
  ·by_cases b:x=34
   ·exact .inr (.inl ⟨a,b⟩)
   ·cases c:aO x with
    | true=>exact .inr (.inr (.inl ⟨a,b,rfl⟩))
    | false=>exact .inr (.inr (.inr ⟨a,b,rfl⟩))
 rcases hcs with q1|⟨n91,q2⟩|⟨n91,n34,q3⟩|⟨n91,n34,q4⟩
 all_goals (
  have ru:=HP.o
  first
   | (first
     | (have e91:(x == 91)=true:=by simp[q1]
        have C3:=wP.o q1;have BQ:Hd (∀d,HD=.ok d->d.i<=s.size):=zL.o q1;rw[if_pos q1]at ru;have G8:Hd (S=MP s.data.toList HD):=ru;have MB:Hd (∀w',Rd w' R s j T->Tr w' B T ns own now->Below B w w'->Calls prog 105 #[.pointer (some ⟨R,0,none⟩)] w' (mr B R T s E HD w')):=C3;clear q1 C3 ru HP wP zL G7 eG CB;go_wp2_with (go_at_call 105;refine(MB.o _ HR2.o HT2.o HB2.o).mono ?_);rintro e w3 ⟨p1,p2,p3⟩;obtain⟨X,rfl⟩:∃X,X=HD:=⟨_,rfl⟩)
     | (have e91:(x == 91)=false:=by simp[n91]
        rw[if_neg n91]at ru
        first
         | (have e34:(x == 34)=true:=by simp[q2]
         rw[if_pos (Or.inl q2)]at ru;clear q2 n91 CB)
         | (have e34:(x == 34)=false:=by simp[n34]
         have iK:Hd (∀w,Calls prog 106 #[.int .i64 x] w fun e w'=>e=.returned (.bool true)/\w'=w):=fun w=>by have:=CB.o x w;rw[q3]at this;exact this
         rw[if_pos (Or.inr q3)]at ru;clear q3 n91 n34 CB)
        have G8:Hd (S=MP s.data.toList PR):=ru;have BQ:Hd (∀d,PR=.ok d->d.i<=s.size):=eG.o;clear ru HP wP zL eG
        try
         go_wp2_with (go_at_call 106;refine(iK.o _).mono ?_);rintro e w' ⟨rfl,rfl⟩
        go_wp2_with (go_at_call 107;refine(G7.o _ HR2.o HT2.o HB2.o).mono ?_);rintro e w3 ⟨p1,p2,p3⟩;obtain⟨X,rfl⟩:∃X,X=PR:=⟨_,rfl⟩)
      have MR:Hd (Below B w w3):=HB2.o.trans p3
      rcases X with⟨ec1,ec2⟩|d
      ·obtain⟨F,rfl,hF⟩:=p2 ec1 ec2 rfl;have dU:Hd (aV w3 (.iface 130 (.pointer (some ⟨F,0,none⟩))) E ec1 ec2):=hF;have az:Hd (S=.error (ec1,ec2)):=G8.o;clear p1 p2 p3 hF;go_wp2;refine bodyPost_ret (results_tmp (t:=2) rfl _ _ _) rfl ?_;rw[az.o];exact⟨fun d hh=>(by cases hh),fun c p hh=>(by cases hh;exact⟨F,rfl,dU.o⟩),MR.o⟩
      obtain⟨rfl,hr3,ht3⟩:=p1 d rfl;have hdl:=BQ.o d rfl;have MS:Hd (Rd w3 R s d.i T):=hr3;have MW:Hd (Tr w3 B T d.ns d.own d.now):=ht3;have MX:Hd (S=rq s.data.toList d (bu s.data.toList (bl s.data.toList d.i))):=G8.o;clear p1 p2 p3 hr3 ht3 G8 BQ)
   | (have e91:(x == 91)=false:=by simp[n91]
      have e34:(x == 34)=false:=by simp[n34]
      have iK:Hd (∀w,Calls prog 106 #[.int .i64 x] w fun e w'=>e=.returned (.bool false)/\w'=w):=fun w=>by have:=CB.o x w;rw[q4]at this;exact this
      rw[if_neg n91,if_neg (by rintro(h|h);exact n34 h;rw[q4]at h;cases h)]at ru;have wQ:Hd (S=rq s.data.toList ⟨j,ns,own,now⟩ (bu s.data.toList (bl s.data.toList j))):=ru;clear q4 n91 n34 CB ru HP wP zL G7 eG;go_wp2_with (go_at_call 106;refine(iK.o _).mono ?_);rintro e w3 ⟨rfl,rfl⟩;obtain⟨d,hd⟩:∃d:Sd,d=⟨j,ns,own,now⟩:=⟨_,rfl⟩;have MS:Hd (Rd w3 R s d.i T):=by rw[hd];exact HR2.o
      have MW:Hd (Tr w3 B T d.ns d.own d.now):=by rw[hd];exact HT2.o
      have hdl:d.i<=s.size:=by rw[hd];exact b2
      have MX:Hd (S=rq s.data.toList d (bu s.data.toList (bl s.data.toList d.i))):=by rw[hd];exact wQ.o
      have MR:Hd (Below B w w3):=HB2.o;clear hd wQ)
  obtain⟨g1,g2⟩:=fQ.o d.i hdl;have C5:=CS.o d.i w3 MS.o hdl;have yT:=MX.o;obtain⟨j5,Ub⟩:=zN (bl s.data.toList d.i);rw[Ub]at C5 g1 g2 yT;have LZ:Hd (Calls prog 103 #[.pointer (some ⟨R,0,none⟩)] w3 fun e wz=>e=.returned (.tuple #[])/\Rd wz R s j5 T/\w3.grownBy wz (some R)):=C5;obtain⟨f1,f2⟩:=HCM.o j5 g2;have MZ:=CC.o j5;obtain⟨cm,hcm⟩:=zN (bu s.data.toList j5);rw[hcm]at MZ yT f1 f2;obtain⟨okb,j6⟩:=cm;simp only[]at f1 f2;have abv:Hd (∀w',Rd w' R s j5 T->Below B w w'->Calls prog 108 #[.pointer (some ⟨R,0,none⟩)] w' (Be R s T (E 2).1 (E 2).2 (okb,j6) w')):=fun w' a b=>MZ w' a b g2
  have Na:Hd (S=rq s.data.toList d (okb,j6)):=yT;clear C5 MZ yT Ub hcm MX;go_wp2_with (go_at_call 103;refine LZ.o.mono ?_);rintro e w5 ⟨rfl,pO,hg5⟩;have oI:Hd (Rd w5 R s j5 T):=pO;have sD:Hd (Below B w w5):=MR.o.trans (kz hg5 hR MW.o.base);have Uc:Hd (Tr w5 B T d.ns d.own d.now):=MW.o.keepR MS.o hg5;clear pO hg5;go_wp2_with (go_at_call 108;refine(abv.o _ oI.o sD.o).mono ?_);rintro e w6 ⟨q1,q2,q3,q4⟩;have l9:Hd (Rd w6 R s j6 T):=q3;have F8:Hd (Below B w w6):=sD.o.trans (kz q4 hR Uc.o.base);have uB:Hd (Tr w6 B T d.ns d.own d.now):=Uc.o.keepR oI.o q4;clear q3 q4
  cases okb with
  | false =>
   obtain⟨v,rfl,F,rfl,hF⟩:=q2 rfl;have dU:Hd (aV w6 (.iface 130 (.pointer (some ⟨F,0,none⟩))) E 2 j6):=⟨F,rfl,hF⟩;have az:Hd (S=.error (2,j6)):=by
    have:=Na.o;unfold rq at this;rw[if_pos rfl]at this;exact this
   clear q1 q2 hF;go_wp2;refine bodyPost_ret (results_tmp (t:=2) rfl _ _ _) rfl ?_;rw[az.o];exact⟨fun d hh=>(by cases hh),fun c p hh=>(by cases hh;exact⟨F,rfl,dU.o⟩),F8.o⟩
  | true =>
   obtain rfl:=q1 rfl;have C7:Hd (Calls prog 104 #[.pointer (some ⟨R,0,none⟩)] w6 fun e w'=>e=.returned (.int .i64 (nx s.data.toList j6))/\w6.grownBy w' none):=CN.o j6 w6 l9.o f2;have sS:=Na.o;unfold rq at sS;rw[if_neg (by simp)]at sS;simp only[]at sS;have Nb:=CT.o j6 d.ns d.own d.now;obtain⟨MU,lN⟩:=zN (must s.data.toList j6 10);rw[lN]at sS Nb;obtain⟨y,hy⟩:=zN (nx s.data.toList j6);rw[hy]at sS C7;have Ud:Hd (S=_):=sS;have abw:Hd (∀w',Rd w' R s j6 T->Tr w' B T d.ns d.own d.now->Below B w w'->j6<=s.size->Calls prog 109 #[.pointer (some ⟨R,0,none⟩),.int .i64 10] w' (zD B R T s E d.own d.now d.ns MU w')):=Nb;clear q1 q2 sS Nb lN hy Na;go_wp2_with (go_at_call 104;refine C7.o.mono ?_);rintro e w7 ⟨rfl,lK⟩;have vX:Hd (Rd w7 R s j6 T):=l9.o.grow lK;have qR:Hd (Below B w w7):=F8.o.trans (nG lK uB.o.base)
   have Ue:Hd (Tr w7 B T d.ns d.own d.now):=uB.o.gb lK;clear lK
   by_cases cy:y=-1
   ·have ey:(y == -1)=true:=by simp[cy]
    have az:Hd (S=.ok ⟨j6,d.ns,d.own,d.now⟩):=by
     have:=Ud.o;rw[if_pos cy]at this;exact this
    clear cy;go_wp2;refine bodyPost_ret (results_tmp (t:=2) rfl _ _ _) rfl ?_;rw[az.o];exact⟨fun d hh=>(by cases hh;exact⟨rfl,vX.o,Ue.o⟩),fun c p hh=>(by cases hh),qR.o⟩
   ·have ey:(y == -1)=false:=by simp[cy]
    have az:Hd (S=match (generalizing:=false) MU with | .error e=>.error e | .ok j=>.ok ⟨j,d.ns,d.own,d.now⟩):=by
     have:=Ud.o;rw[if_neg cy]at this;exact this
    clear cy;go_wp2_with (go_at_call 109;refine(abw.o _ vX.o Ue.o qR.o f2).mono ?_);rintro e w8 ⟨t1,t2,t3⟩
    cases MU with
    | error ec =>
     obtain⟨ec1,ec2⟩:=ec;obtain⟨F,rfl,hF⟩:=t2 ec1 ec2 rfl;have dU:Hd (aV w8 (.iface 130 (.pointer (some ⟨F,0,none⟩))) E ec1 ec2):=hF;have BK:Hd (Below B w w8):=qR.o.trans t3;have Dv:Hd (S=.error (ec1,ec2)):=az.o;clear t1 t2 t3 hF;go_wp2;refine bodyPost_ret (results_tmp (t:=2) rfl _ _ _) rfl ?_;rw[Dv.o];exact⟨fun d hh=>(by cases hh),fun c p hh=>(by cases hh;exact⟨F,rfl,dU.o⟩),BK.o⟩
    | ok j8 =>
     obtain⟨rfl,zu,Uf⟩:=t1 j8 rfl;have uq:Hd (Rd w8 R s j8 T):=zu;have HT8:Hd (Tr w8 B T d.ns d.own d.now):=Uf;have BK:Hd (Below B w w8):=qR.o.trans t3;have Dv:Hd (S=.ok ⟨j8,d.ns,d.own,d.now⟩):=az.o;clear t1 t2 t3 zu Uf;go_wp2;refine bodyPost_ret (results_tmp (t:=2) rfl _ _ _) rfl ?_;rw[Dv.o];exact⟨fun d hh=>(by cases hh;exact⟨rfl,uq.o,HT8.o⟩),fun c p hh=>(by cases hh),BK.o⟩)
open Go.RowKit Go.Joins
theorem Dw{l:List UInt8}{d:Sd}(L:Li l d)(j:Nat)(h1:d.i<=j)(h2:j<=l.length):Li l ⟨j,d.ns,d.own,d.now⟩ :=
 ⟨L.jt,L.rt,h2,by have:=L.nn;simp only[];omega,by have:=L.on;simp only[];omega⟩
theorem G9(l:List UInt8)(d d':Sd)(L:Li l d)(hi:d.i<l.length)(h:iR l d=.ok d'):Li l d'/\d.i<d'.i:=by
 obtain⟨i,ns,own,now⟩:=d;simp only[]at hi;rw[MQ]at h;have b1:=jP l i (by omega);have L':Li l ⟨bl l i,ns,own,now⟩:=Dw L (bl l i) b1.1 b1.2;have mid:∀d1,(if nx l (bl l i)=91 then gI l ⟨bl l i,ns,own,now⟩ else if nx l (bl l i)=34\/aO (nx l (bl l i))=true then rdPair l ⟨bl l i,ns,own,now⟩ else .ok ⟨bl l i,ns,own,now⟩)=.ok d1->Li l d1/\bl l i<=d1.i:=fun d1 hh=>by
  split at hh
  ·rename_i hx;obtain⟨a,b⟩:=MO l _ d1 L' (bH (l:=l) (i:=bl l i) (by rw[hx];decide)) hh;exact⟨a,Nat.le_of_lt b⟩
  ·split at hh
   ·obtain⟨a,b⟩:=MM l _ d1 L' hh;exact⟨a,Nat.le_of_lt b⟩
   ·cases hh
    exact⟨L',Nat.le_refl _⟩
 cases hm:(if nx l (bl l i)=91 then gI l ⟨bl l i,ns,own,now⟩ else if nx l (bl l i)=34\/aO (nx l (bl l i))=true then rdPair l ⟨bl l i,ns,own,now⟩ else .ok ⟨bl l i,ns,own,now⟩) with
 | error e=>rw[hm]at h;cases h
 | ok d1 =>
  rw[hm]at h;obtain⟨L1,h1⟩:=mid d1 hm;have h2:rq l d1 (bu l (bl l d1.i))=.ok d':=h;have b2:=jP l d1.i L1.le;have c2:=Bh l (bl l d1.i) b2.2;unfold rq at h2;split at h2
  ·cases h2
  ·split at h2
   ·rename_i hx;have:=Bc hx
    cases h2
    exact⟨Dw L1 _ (by omega) c2.2,by simp only[];omega⟩
   ·cases hq:must l (bu l (bl l d1.i)).2 10 with
    | error e=>rw[hq]at h2;cases h2
    | ok q =>
     rw[hq]at h2;obtain⟨m1,m2⟩:=wO l _ _ 10 (by decide) hq
     cases h2
     exact⟨Dw L1 q (by omega) (by omega),by simp only[];omega⟩
theorem Dx(l:List UInt8):Li l ⟨0,[⟨0,[],[],0,[],0⟩],[],0⟩:=by
 have hk:∀p,ae [(⟨0,[],[],0,[],0⟩:Tn)] p=[]:=fun p=>by
  unfold ae
  cases p with
  | zero=>rfl
  | succ p=>rfl
 refine⟨⟨⟨fun p p' q h=>?_,fun p q h=>?_,fun q h=>?_,fun p=>?_⟩,fun q hq=>?_,by simp,rfl⟩,rfl,Nat.zero_le _,by simp,by simp⟩
 ·rw[hk]at h;cases h
 ·rw[hk]at h;cases h
 ·cases h
 ·rw[hk];simp
 ·exfalso;unfold ak at hq
  cases q with
  | zero=>exact absurd (show(0:Int)=2 from hq) (by decide)
  | succ q=>exact absurd (show(-1:Int)=2 from hq) (by decide)
open Go.RowKit Go.Maps Go.WideMaps Go.Joins
theorem abx:hold [(⟨0,[],[],0,[],0⟩:Tn)] []=fun _ _=>none:=by
 funext t k;unfold hold;have:ai [(⟨0,[],[],0,[],0⟩:Tn)] t k=none:=by
  rw[qI];unfold ae
  cases t with
  | zero=>rfl
  | succ t=>rfl
 rw[this];split<;>rfl
theorem aby(w:World):Tr (((w.alloc (.cells #[.int .i64 0,.string ⟨#[]⟩,.string ⟨#[]⟩,.int .i64 0,.slice none 0 0,.int .i64 0] 64)).alloc (.map #[] 0)).alloc (.cells #[.slice (some ⟨w.heap.size,0,none⟩) 1 1,.map (some (w.heap.size+1)),.int .i64 0] 129)) w.heap.size (w.heap.size+2) [⟨0,[],[],0,[],0⟩] [] 0:=by
 obtain⟨w1,hw1⟩:=zN (w.alloc (.cells #[.int .i64 0,.string ⟨#[]⟩,.string ⟨#[]⟩,.int .i64 0,.slice none 0 0,.int .i64 0] 64));have n1:=heap_alloc_new w (.cells #[.int .i64 0,.string ⟨#[]⟩,.string ⟨#[]⟩,.int .i64 0,.slice none 0 0,.int .i64 0] 64);have s1:(w.alloc (.cells #[.int .i64 0,.string ⟨#[]⟩,.string ⟨#[]⟩,.int .i64 0,.slice none 0 0,.int .i64 0] 64)).heap.size=w.heap.size+1:=World.size_alloc _ _;rw[hw1]at n1 s1 ⊢;have m2:=HM.made w1;have g2:w1.grownBy (w1.alloc (.map #[] 0)) none:=World.grownBy_alloc _ _ _;have s2:(w1.alloc (.map #[] 0)).heap.size=w.heap.size+2:=by rw[World.size_alloc,s1]
 rw[s1]at m2;obtain⟨w2,hw2⟩:=zN (w1.alloc (.map #[] 0));rw[hw2]at m2 g2 s2 ⊢;have n3:=heap_alloc_new w2 (.cells #[.slice (some ⟨w.heap.size,0,none⟩) 1 1,.map (some (w.heap.size+1)),.int .i64 0] 129);have g3:w2.grownBy (w2.alloc (.cells #[.slice (some ⟨w.heap.size,0,none⟩) 1 1,.map (some (w.heap.size+1)),.int .i64 0] 129)) none:=World.grownBy_alloc _ _ _;rw[s2]at n3;have n1':=jy (jy n1 g2) g3;obtain⟨es,cc,hm⟩:=m2.map;refine⟨w.heap.size,1,w.heap.size+1,[.int .i64 0,.string ⟨#[]⟩,.string ⟨#[]⟩,.int .i64 0,.slice none 0 0,.int .i64 0],fun _=>.slice none 0 0,?_⟩;refine⟨n3,by omega,⟨rfl,Or.inr ⟨w.heap.size,1,_,rfl,Nat.le_refl _,n1',Nat.le_refl _,by unfold maxLen;omega,rfl,rfl⟩⟩,fun i hi=>?_,fun i hi=>?_,fun i j g hi hj h1 _=>?_,?_,by omega⟩
 ·have:i=0:=by simp at hi;omega
  subst this;exact⟨rfl,rfl,rfl,rfl,rfl,rfl⟩
 ·have:i=0:=by simp at hi;omega
  subst this;exact⟨rfl,Or.inl ⟨rfl,rfl⟩⟩
 ·cases h1
 ·rw[abx];exact(m2.mono (by simp)).block (g3.block _ (aB hm) (by simp))
theorem abz(w:World):(Instr.makeMap 127 none).run prog w=.ok (.map (some w.heap.size)) (w.alloc (.map #[] 0)):=by kernel_rfl
theorem abA(w:World):Calls prog 71 #[] w fun e w'=>e=.returned (.pointer (some ⟨w.heap.size+2,0,none⟩))/\Tr w' w.heap.size (w.heap.size+2) [⟨0,[],[],0,[],0⟩] [] 0/\w.grownBy w' none:=by
 have HT:Hd (Tr (((w.alloc (.cells #[.int .i64 0,.string ⟨#[]⟩,.string ⟨#[]⟩,.int .i64 0,.slice none 0 0,.int .i64 0] 64)).alloc (.map #[] 0)).alloc (.cells #[.slice (some ⟨w.heap.size,0,none⟩) 1 1,.map (some (w.heap.size+1)),.int .i64 0] 129)) w.heap.size (w.heap.size+2) [⟨0,[],[],0,[],0⟩] [] 0):=aby w;have hmk:=abz (w.alloc (.cells #[.int .i64 0,.string ⟨#[]⟩,.string ⟨#[]⟩,.int .i64 0,.slice none 0 0,.int .i64 0] 64));rw[World.size_alloc]at hmk;go_enter func71,ntmps71;go_wp2;go_ret;exact⟨rfl,HT.o,ah (ah (World.grownBy_alloc _ _ none) (World.grownBy_alloc _ _ none)) (World.grownBy_alloc _ _ none)⟩
open Go.RowKit Go.Maps Go.WideMaps Go.Joins
def Ug(s:ByteArray)(E:Int->TypeId × Value)(r:Rs (List Tn))(w:World)(e:Ending)(w':World):Prop :=
 (∀ns,r=.ok ns->∃N c M T xs ks now n f,e=.returned (.tuple #[.slice (some ⟨N,0,none⟩) ns.length c,.nilIface])/\TrD w' w.heap.size T ns now N c M xs ks n f) ∧
 (∀c p,r=.error (c,p)->∃v,e=.returned (.tuple #[.slice none 0 0,v])/\((c=1/\v=.iface (E 1).1 (E 1).2)\/aV w' v E c p))/\w.grownBy w' none
theorem Ha(l:List UInt8)(f:Nat)(d:Sd):jw l (f+1) d=if l.length<=d.i then .ok d else match iR l d with | .error e=>.error e | .ok d1=>jw l f d1:=rfl
theorem Dy{w w':World}(h:Below w.heap.size w w'):w.grownBy w' none:=⟨h.os,h.tape,h.output,h.size,fun k hk _=>h.block k hk⟩
def abB:Rs Sd->Rs (List Tn)
 | .error e=>.error e
 | .ok d=>.ok d.ns
theorem He(l:List UInt8):jL l=if 100000<l.length then .error (1,0) else abB (jw l (l.length+1) ⟨0,[⟨0,[],[],0,[],0⟩],[],0⟩):=by
 unfold jL;split
 ·rfl
 ·cases jw l (l.length+1) ⟨0,[⟨0,[],[],0,[],0⟩],[],0⟩<;>rfl
theorem abC(s:ByteArray)(E:Int->TypeId × Value)(w:World)(G:Gl w w.heap.size E)(hlo:w.cell? ⟨0,0,none⟩=some (.iface (E 1).1 (E 1).2))(hmx:s.size<2 ^ 62) :
  Calls prog 47 #[.string s] w (Ug s E (jL s.data.toList) w):=by
 have hl:s.data.toList.length=s.size:=by simp
 have Nc:Hd (Calls prog 71 #[] w fun e w'=>e=.returned (.pointer (some ⟨w.heap.size+2,0,none⟩))/\Tr w' w.heap.size (w.heap.size+2) [⟨0,[],[],0,[],0⟩] [] 0/\w.grownBy w' none):=abA w;have HE:=He s.data.toList;rw[hl]at HE
 by_cases hbig:100000<s.size
 ·rw[if_pos hbig]at HE;rw[HE];have hb:(100000:Int)<(s.size:Int):=by omega
  have HR1:Hd (∀ty pv,(E 1).1=ty->(E 1).2=pv->True):=fun _ _ _ _=>trivial
  obtain⟨ty,hty⟩:=zN ((E 1).1);obtain⟨pv,hpv⟩:=zN ((E 1).2);have oP:Hd ((E 1).1=ty/\(E 1).2=pv):=⟨hty,hpv⟩;rw[hty,hpv]at hlo;clear HE Nc G hty hpv HR1 hbig;go_enter func47,ntmps47;go_wp2;go_quiet (fail);go_wp2;refine bodyPost_ret (results_tmp2 (t:=2) (u:=3) rfl _ _ _) rfl ?_;exact⟨fun ns hh=>(by cases hh),fun c p hh=>(by cases hh;exact⟨_,rfl,Or.inl ⟨rfl,by rw[oP.o.1,oP.o.2];rfl⟩⟩),aj (ax w none) _⟩
 ·rw[if_neg hbig]at HE;rw[HE];have hb:(s.size:Int)<=100000:=by omega
  have hs:s.size<=100000:=by omega
  obtain⟨B,Hf⟩:=zN (w.heap.size);have CL:Hd (∀R T d wr,Rd wr R s d.i T->Tr wr B T d.ns d.own d.now->B<=R->Below B w wr->Li s.data.toList d->Calls prog 72 #[.pointer (some ⟨R,0,none⟩)] wr (mr B R T s E (iR s.data.toList d) wr)):=fun R T d wr h1 h2 h3 h4 h5=>abu B R T s E d.own d.now d.i d.ns wr h1 h2 ((Hf ▸ G).bel h4) h3 hs h5
  have Dz:Hd (∀d d',Li s.data.toList d->d.i<s.size->iR s.data.toList d=.ok d'->Li s.data.toList d'/\d.i<d'.i):=fun d d' a b c=>G9 s.data.toList d d' a (by omega) c
  obtain⟨S,hS⟩:=zN (jw s.data.toList (s.data.toList.length+1) ⟨0,[⟨0,[],[],0,[],0⟩],[],0⟩);have HS:Hd (jw s.data.toList (s.data.toList.length+1) ⟨0,[⟨0,[],[],0,[],0⟩],[],0⟩=S):=hS;rw[<-hl,hS];have dQ:Hd (w.heap.size=B):=Hf;rw[Hf]at Nc;clear HE hbig hS G hlo Hf;go_enter func47,ntmps47;go_wp2_with (go_at_call 71;refine Nc.o.mono ?_);rintro e w1 ⟨rfl,ht1,hg1⟩;obtain⟨R,hRe⟩:=zN (w1.heap.size);have jA:B<=R:=by have:=hg1.size;have:=dQ.o;omega
  have hn:=heap_alloc_new w1 (.cells #[.string s,.int .i64 0,.pointer (some ⟨B+2,0,none⟩)] 125);rw[hRe]at hn;have hgR:=World.grownBy_alloc w1 (.cells #[.string s,.int .i64 0,.pointer (some ⟨B+2,0,none⟩)] 125) none;obtain⟨w2,hw2⟩:=zN (w1.alloc (.cells #[.string s,.int .i64 0,.pointer (some ⟨B+2,0,none⟩)] 125));rw[hw2]at hn hgR;have HR2:Hd (Rd w2 R s 0 (B+2)):=hn;have HT2:Hd (Tr w2 B (B+2) [⟨0,[],[],0,[],0⟩] [] 0):=ht1.gb hgR;have HB2:Hd (Below B w w2):=nG (ah hg1 hgR) (by have:=dQ.o;omega);clear hn hgR ht1 hg1;go_wp2;go_loopw [2,3] (fun v2 v3 wr=>v2=.slice none 0 0/\v3=.nilIface/\∃(d:Sd) (f:Nat),Rd wr R s d.i (B+2)/\Tr wr B (B+2) d.ns d.own d.now/\Li s.data.toList d/\Below B w wr/\jw s.data.toList f d=S/\s.size-d.i<f) (fun _ _ wr=>s.size-(match wr.cell? ⟨R,1,none⟩ with|some (.int _ k)=>k.toNat|_=>0))
  case atStart=>exact⟨rfl,rfl,⟨0,[⟨0,[],[],0,[],0⟩],[],0⟩,s.data.toList.length+1,HR2.o,HT2.o,Dx _,HB2.o,HS.o,by simp⟩
  case round =>
   obtain⟨rfl,rfl,d,f,hrd,htr,DC,hbe,hra,hf⟩:=hrel;obtain⟨f,rfl⟩:∃f',f=f'+1:=⟨f-1,by omega⟩;rw[Ha,hl]at hra;have hdl:d.i<=s.size:=by have:=DC.le;omega
   have kV:Hd (Rd wr R s d.i (B+2)):=hrd;have HTK:Hd (Tr wr B (B+2) d.ns d.own d.now):=htr;have HLK:Hd (Li s.data.toList d):=DC;have kY:Hd (Below B w wr):=hbe;have gK:Hd ((match wr.cell? ⟨R,1,none⟩ with|some (.int _ k)=>k.toNat|_=>0)=d.i):=by show _=_;rw[hrd.cells.2.1];simp
   obtain⟨c0,c1,c2,-⟩:=hrd.cells;obtain⟨k,hk⟩:=zN (d.i);rw[hk]at c1 hdl hf;have HKK:Hd (d.i=k):=hk
   by_cases hlt:k<s.size
   ·have hlt':(k:Int)<(s.size:Int):=by omega
    rw[if_neg (by omega)]at hra;have mi:=CL.o R (B+2) d wr hrd htr jA hbe DC;have xW:=Dz.o d;obtain⟨LR,Uh⟩:=zN (iR s.data.toList d);rw[Uh]at mi xW hra;have zJ:Hd (Calls prog 72 #[.pointer (some ⟨R,0,none⟩)] wr (mr B R (B+2) s E LR wr)):=mi;have HL2:Hd (∀d',Li s.data.toList d->d.i<s.size->LR=.ok d'->Li s.data.toList d'/\d.i<d'.i):=xW;have zC:Hd (_=S):=hra;clear hrd htr DC hbe hra mi xW Uh hk;go_wp2_with (go_at_call 72;refine zJ.o.mono ?_);rintro e w3 ⟨p1,p2,p3⟩;have HB3:Hd (Below B w w3):=kY.o.trans p3
    cases LR with
    | error ec =>
     obtain⟨ec1,ec2⟩:=ec;obtain⟨F,rfl,hF⟩:=p2 ec1 ec2 rfl;have dU:Hd (aV w3 (.iface 130 (.pointer (some ⟨F,0,none⟩))) E ec1 ec2):=hF;have az:Hd (S=.error (ec1,ec2)):=zC.o.symm;clear p1 p2 p3 hF c0 c1 c2;go_wp2;refine bodyPost_ret (results_tmp2 (t:=2) (u:=3) rfl _ _ _) rfl ?_;rw[az.o];exact⟨fun ns hh=>(by cases hh),fun c p hh=>(by cases hh;exact⟨_,rfl,Or.inr dU.o⟩),Dy (by rw[dQ.o];exact HB3.o)⟩
    | ok d1 =>
     obtain⟨rfl,hr3,ht3⟩:=p1 d1 rfl;have hkd:d.i<s.size:=by rw[HKK.o];exact hlt
     obtain⟨Ui,hgo⟩:=HL2.o d1 HLK.o hkd rfl;have HR3:Hd (Rd w3 R s d1.i (B+2)):=hr3;have HT3:Hd (Tr w3 B (B+2) d1.ns d1.own d1.now):=ht3;have uu:Hd (Li s.data.toList d1):=Ui;have az:Hd (jw s.data.toList f d1=S):=zC.o;have nS:Hd (d.i<d1.i):=hgo;clear p1 p2 p3 hr3 ht3 Ui hgo c0 c1 c2;go_wp2;go_roundw
     case rel=>exact⟨rfl,rfl,d1,f,HR3.o,HT3.o,uu.o,HB3.o,az.o,by have h1:=nS.o;have h2:=HKK.o;have h3:=uu.o.le;omega⟩
     case measure =>
      rw[gK.o,HR3.o.cells.2.1];have h1:=nS.o;have h2:=HKK.o;simp;omega
   ·have hkl:¬(k:Int)<(s.size:Int):=by omega
    rw[if_pos (by omega)]at hra;have az:Hd (S=.ok d):=hra.symm;have abD:=htr;obtain⟨N,c,M,xs,ks,hD⟩:=abD;have t0:=hD.cells.1;have HD:Hd (TrD wr B (B+2) d.ns d.now N c M xs ks (d.ns.length+d.own.length) (hold d.ns d.own)):=hD;clear hrd htr DC hbe hra hk hD;go_wp2;refine bodyPost_ret (results_tmp2 (t:=2) (u:=3) rfl _ _ _) rfl ?_;rw[az.o];exact⟨fun ns hh=>(by cases hh;exact⟨N,c,M,B+2,xs,ks,d.now,_,_,rfl,by rw[dQ.o];exact HD.o⟩),fun c p hh=>(by cases hh),Dy (by rw[dQ.o];exact kY.o)⟩
open Go.RowKit Go.Maps Go.WideMaps Go.Joins
def NuS(w:World)(v:Value)(l:List Nat):Prop:=∃o c,v=.slice o l.length c/\∀i (hi:i<l.length),∃g,o=some ⟨g,0,none⟩/\w.cell? ⟨g,i,none⟩=some (.int .i64 (l[i]:Nat))
theorem NuS.of{w:World}{B:Nat}{v:Value}{l:List Nat}(h:w.ownsRow B 3 1 v l.length (l.map fun q=>.int .i64 (q:Nat))):NuS w v l:=by
 obtain⟨o,c,hv⟩:=lL h;refine⟨o,c,hv,fun i hi=>?_⟩;rw[hv]at h
 rcases h.2 with⟨e1,e2⟩|⟨g,cap,cur,e1,_⟩
 ·omega
 ·injection e1 with e1 _ _
  refine⟨g,e1,?_⟩;have:=h.cells (g:=g) (by rw[e1];rfl) i (.int .i64 (l[i]:Nat)) (by rw[List.getElem?_map,List.getElem?_eq_getElem hi];rfl);rw[ni]at this;exact this
def NoS(w:World)(v:Value)(ns:List Tn):Prop:=∃o c,v=.slice o ns.length c/\∀i (hi:i<ns.length),∃g k,o=some ⟨g,0,none⟩/\w.cell? ⟨g,i*6,none⟩=some (.int .i64 ns[i].kd)/\w.cell? ⟨g,i*6+1,none⟩=some (.string ⟨ns[i].ky.toArray⟩)/\w.cell? ⟨g,i*6+2,none⟩=some (.string ⟨ns[i].tx.toArray⟩)/\w.cell? ⟨g,i*6+3,none⟩=some (.int .i64 ns[i].nu)/\w.cell? ⟨g,i*6+4,none⟩=some k/\w.cell? ⟨g,i*6+5,none⟩=some (.int .i64 (ns[i].pl:Nat))/\NuS w k ns[i].ks
theorem NuS.grow{w w':World}{v:Value}{l:List Nat}(h:NuS w v l)(hg:w.grownBy w' none):NuS w' v l:=by
 obtain⟨o,c,hv,hc⟩:=h;refine⟨o,c,hv,fun i hi=>?_⟩;obtain⟨g,h1,h2⟩:=hc i hi;exact⟨g,h1,hg.cell h2 (by simp)⟩
theorem NoS.grow{w w':World}{v:Value}{ns:List Tn}(h:NoS w v ns)(hg:w.grownBy w' none):NoS w' v ns:=by
 obtain⟨o,c,hv,hc⟩:=h;refine⟨o,c,hv,fun i hi=>?_⟩;obtain⟨g,k,e,h0,h1,h2,h3,h4,h5,h6⟩:=hc i hi;exact⟨g,k,e,hg.cell h0 (by simp),hg.cell h1 (by simp),hg.cell h2 (by simp),hg.cell h3 (by simp),hg.cell h4 (by simp),hg.cell h5 (by simp),h6.grow hg⟩
open Go.RowKit Go.Maps Go.WideMaps Go.Joins
theorem Nh(l:List UInt8):∀(f:Nat) (d d':Sd),Li l d->jw l f d=.ok d'->Li l d'
 | 0,d,d',L,h=>by cases h;exact L
 | f+1,d,d',L,h=>by
  rw[Ha]at h;split at h
  ·cases h;exact L
  ·cases hr:iR l d with
   | error e=>rw[hr]at h;cases h
   | ok d1 =>
    rw[hr]at h;exact Nh l f d1 d' (G9 l d d1 L (by omega) hr).1 h
theorem Uj(l:List UInt8)(ns:List Tn)(h:jL l=.ok ns):∃own now,Jt ns own now/\ak ns 0=0/\ns.length<=200001/\l.length<=100000:=by
 rw[He]at h;split at h
 ·cases h
 ·cases ha:jw l (l.length+1) ⟨0,[⟨0,[],[],0,[],0⟩],[],0⟩ with
  | error e=>rw[ha]at h;cases h
  | ok d =>
   rw[ha]at h;have L:=Nh l _ _ _ (Dx l) ha
   cases h
   have h1:=L.nn;have h2:=L.le;exact⟨d.own,d.now,L.jt,L.rt,by omega,by omega⟩
theorem Uk{l:List UInt8}{ns:List Tn}(h:jL l=.ok ns)(i:Nat)(hi:i<ns.length):ns[i].ks.length<=1000000:=by
 obtain⟨own,now,J,-,hn,-⟩:=Uj l ns h;have:=J.wf.len i;unfold ae at this;rw[List.getElem?_eq_getElem hi]at this;simp only[]at this;omega
theorem Gl.up{w:World}{B B':Nat}{E:Int->TypeId × Value}(h:Gl w B E)(hB:B<=B'):Gl w B' E :=
 ⟨h.es,⟨Nat.lt_of_lt_of_le h.lo.te hB,Nat.lt_of_lt_of_le h.lo.ra hB,Nat.lt_of_lt_of_le h.lo.ma hB,Nat.lt_of_lt_of_le h.lo.tw hB⟩,h.tabs,Nat.lt_of_lt_of_le h.t3 hB,Nat.lt_of_lt_of_le h.t4 hB⟩
end Go.Proofs.YtnnbgjaphfhibaaGreatDoor
