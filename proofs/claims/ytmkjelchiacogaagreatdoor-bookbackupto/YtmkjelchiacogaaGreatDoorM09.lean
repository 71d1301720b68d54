import Derived.Test.YtmkjelchiacogaaGreatDoorM08
set_option linter.unusedVariables false
set_option linter.unusedSimpArgs false
set_option maxRecDepth 100000
set_option maxHeartbeats 6400000
open Go.Proofs.Tryz
namespace Go.Proofs.YtmkjelchiacogaaGreatDoor
open Go.RowKit Go.Maps Go.WideMaps Go.Joins
def lT(B R T:Nat)(s:ByteArray)(E:Int->TypeId × Value)(r:Rs Sd)(w:World)(e:Ending)(w':World):Prop :=
 (∀d,r=.ok d->e=.returned .nilIface/\Rd w' R s d.i T/\Tr w' B T d.ns d.own d.now)/\(∀c p,r=.error (c,p)->∃F,e=.returned (.iface 104 (.pointer (some ⟨F,0,none⟩)))/\aF w' (.iface 104 (.pointer (some ⟨F,0,none⟩))) E c p)/\Below B w w'
def Gv(own:List Nat)(now:Nat):Rs (Nat × List Tn)->Rs Sd
 | .error e=>.error e
 | .ok (j,ns)=>.ok ⟨j,ns,own,now⟩
theorem Gw(l:List UInt8)(i:Nat)(ns:List Tn)(own:List Nat)(now:Nat):rdPair l ⟨i,ns,own,now⟩ =
  match eG l i with
  | .error e=>.error e
  | .ok (k,j)=>match must l (bl l j) 61 with
   | .error e=>.error e
   | .ok j1=>match aG ns now k with
    | some _=>.error (5,i)
    | none=>Gv own now (val l (2*l.length+2) (bl l j1) now k i 0 ns):=by
 unfold rdPair
 cases eG l i with
 | error e=>rfl
 | ok q =>
  obtain⟨k,j⟩:=q;simp only[]
  cases must l (bl l j) 61 with
  | error e=>rfl
  | ok j1 =>
   simp only[]
   cases aG ns now k with
   | some q=>rfl
   | none =>
    simp only[]
    cases val l (2*l.length+2) (bl l j1) now k i 0 ns with
    | error e=>rfl
    | ok q=>rfl
theorem aa4{B R T:Nat}{s:ByteArray}{E:Int->TypeId × Value}{own:List Nat}{now:Nat}{v:Rs (Nat × List Tn)}{w w' w'':World}{e:Ending}(hb:Below B w w')(h:qO B R T s E own now v w' e w''):∃u,e=.returned u/\Hd (lT B R T s E (Gv own now v) w (.returned u) w''):=by
 cases v with
 | error ec =>
  obtain⟨c,p⟩:=ec;obtain⟨u,rfl,F,rfl,hF⟩:=h.2.1 c p rfl;exact⟨_,rfl,fun d hh=>(by cases hh),fun c p hh=>(by cases hh;exact⟨F,rfl,F,rfl,hF⟩),hb.trans h.2.2⟩
 | ok q =>
  obtain⟨j,ns⟩:=q;obtain⟨rfl,h1,h2⟩:=h.1 j ns rfl;exact⟨_,rfl,fun d hh=>(by cases hh;exact⟨rfl,h1,h2⟩),fun c p hh=>(by cases hh),hb.trans h.2.2⟩
theorem aa5(B R T:Nat)(s:ByteArray)(E:Int->TypeId × Value)(own:List Nat)(now i:Nat)(ns:List Tn)(w:World)(h:Rd w R s i T)(htr:Tr w B T ns own now)(G:Gl w B E)(hR:B<=R)(hi:i<=s.size)(hs:s.size<=100000)(J:Jt ns own now)(hsz:ns.length+own.length+(s.size-i)<=700000) :
  Calls prog 77 #[.pointer (some ⟨R,0,none⟩)] w (lT B R T s E (rdPair s.data.toList ⟨i,ns,own,now⟩) w):=by
 have hl:s.data.toList.length=s.size:=by simp
 have hB:B<=w.heap.size:=htr.base;have CK:Hd (Calls prog 121 #[.pointer (some ⟨R,0,none⟩)] w (Gh R s T E i (eG s.data.toList i) w)):=QV R s i T B E w h hi (by omega) G hR hB;have CS:Hd (∀k w,Rd w R s k T->k<=s.size->Calls prog 73 #[.pointer (some ⟨R,0,none⟩)] w fun e w'=>e=.returned (.tuple #[])/\Rd w' R s (bl s.data.toList k) T/\w.grownBy w' (some R)):=fun k w h1 h2=>Fp R s k T w h1 h2 (by omega)
 have CT:Hd (∀k w',Rd w' R s k T->w.grownBy w' (some R)->k<=s.size->Calls prog 79 #[.pointer (some ⟨R,0,none⟩),.int .i64 61] w' fun e w''=>(∃v,e=.returned v/\Hd ((∀q,must s.data.toList k 61=.ok q->v=.nilIface/\Rd w'' R s q T)/\(∀c p,must s.data.toList k 61=.error (c,p)->∃F,v=.iface 104 (.pointer (some ⟨F,0,none⟩))/\aF w'' v E c p)))/\w'.grownBy w'' (some R)):=fun k w' h1 hg hk =>
  (Jf R s k T 61 (E 2).1 (E 2).2 w' h1 hk (by omega) (by decide) (G.gb hg hR hB).es.te).mono fun e w'' ⟨a1,a2,a3⟩=>by
   unfold must
   by_cases hx:nx s.data.toList k=61
   ·rw[if_pos hx];exact⟨⟨_,(a1 hx).1,fun q hq=>(by cases hq;exact⟨rfl,(a1 hx).2⟩),fun c p hp=>(by cases hp)⟩,a3⟩
   ·rw[if_neg hx];obtain⟨⟨v,e1,F,rfl,hF⟩,-⟩:=a2 hx;exact⟨⟨_,e1,fun q hq=>(by cases hq),fun c p hp=>(by cases hp;exact⟨F,rfl,F,rfl,hF⟩)⟩,a3⟩
 have CF:Hd (∀(k:List UInt8) w',k.length<=1048576->w.grownBy w' (some R)->Calls prog 122 #[.pointer (some ⟨T,0,none⟩),.agg #[.string ⟨k.toArray⟩,.int .i64 (i:Nat)]] w' fun e w''=>(∃v,e=.returned v/\Hd ((aG ns now k=none->v=.nilIface)/\(∀q,aG ns now k=some q->∃F,v=.iface 104 (.pointer (some ⟨F,0,none⟩))/\aF w'' v E 5 i)))/\w'.grownBy w'' none):=fun k w' hk hg =>
  (aaj B T ns own now E k i w' (htr.keepR h hg) J.kd (by have:=J.lt;omega) hk (G.gb hg hR hB).es).mono fun e w'' ⟨a1,a2,a3⟩=>by
   cases hq:aG ns now k with
   | none=>exact⟨⟨_,a1 hq,fun _=>rfl,fun q hh=>(by cases hh)⟩,a3⟩
   | some q =>
    obtain⟨v,e1,F,rfl,hF⟩:=a2 q hq;exact⟨⟨_,e1,fun hh=>(by cases hh),fun q hh=>⟨F,rfl,F,rfl,hF⟩⟩,a3⟩
 have CV:Hd (∀(k:List UInt8) j w',k.length<=1048576->j<=s.size->i<=j->aG ns now k=none->w.grownBy w' (some R)->Rd w' R s j T->Calls prog 123 #[.pointer (some ⟨R,0,none⟩),.int .i64 (now:Nat),.agg #[.string ⟨k.toArray⟩,.int .i64 (i:Nat)],.int .i64 0] w' fun e w''=>∃u,e=.returned u/\Hd (lT B R T s E (Gv own now (val s.data.toList (2*s.data.toList.length+2) j now k i 0 ns)) w (.returned u) w'')):=fun k j w' hk hj hij hq hg hr =>
  (aa3 (2*s.data.toList.length+2) B R T s E own now j now k i 0 ns w' hr (htr.keepR h hg) (G.gb hg hR hB) hR hj hs J.wf J.wt J.lt (by rw[J.kd];decide) (fun _=>hq) hk (by omega) (by omega) (by omega)).mono fun e w'' hv=>aa4 (iP hg hR hB) hv
 have nI:Hd (∀x j,eG s.data.toList i=.ok (x,j)->i<j/\j<=s.size/\x.length<=1048576):=fun x j a=>by
  have:=zD s.data.toList i x j (by omega) a;omega
 have fP:Hd (∀k,k<=s.size->k<=bl s.data.toList k/\bl s.data.toList k<=s.size):=fun k hk=>by rw[<-hl];exact lh _ k (by omega)
 have BU:Hd (∀k q,must s.data.toList k 61=.ok q->q=k+1/\k<s.size):=fun k q a=>by
  unfold must at a;split at a
  ·rename_i hx;have:=cZ (l:=s.data.toList) (i:=k) (by rw[hx];decide)
   cases a
   omega
  ·cases a
 have jb:=Gw s.data.toList i ns own now;obtain⟨S,hS⟩:=zN (rdPair s.data.toList ⟨i,ns,own,now⟩);rw[hS]at jb ⊢;obtain⟨KR,qP⟩:=zN (eG s.data.toList i);rw[qP]at jb CK nI;have HP:Hd (S=_):=jb;have mO:Hd (Tr w B T ns own now):=htr;have H0:Hd (Rd w R s i T):=h;clear jb hS qP h htr G J;go_enter func77,ntmps77;go_wp2_with (go_at_call 121;refine CK.o.mono ?_);rintro e w1 ⟨p1,p2,p3⟩
 cases KR with
 | error ec =>
  obtain⟨ec1,ec2⟩:=ec;obtain⟨ka,kb,v,rfl,F,rfl,hF⟩:=p2 ec1 ec2 rfl;have aZ:Hd (aF w1 (.iface 104 (.pointer (some ⟨F,0,none⟩))) E ec1 ec2):=⟨F,rfl,hF⟩;have aj:Hd (S=.error (ec1,ec2)):=HP.o;have HBA:Hd (Below B w (w1.alloc (.cells #[.string ka,.int .i64 kb] 196))):=iP (aI p3 (World.grownBy_alloc _ _ none)) hR hB;have lm:Hd (aF (w1.alloc (.cells #[.string ka,.int .i64 kb] 196)) (.iface 104 (.pointer (some ⟨F,0,none⟩))) E ec1 ec2):=FaultV.grow aZ.o (World.grownBy_alloc _ _ none);clear p1 p2 p3 hF;go_wp2;refine bodyPost_ret (results_tmp (t:=2) rfl _ _ _) rfl ?_;rw[aj.o];exact⟨fun d hh=>(by cases hh),fun c p hh=>(by cases hh;exact⟨F,rfl,lm.o⟩),HBA.o⟩
 | ok q =>
  obtain⟨k,j⟩:=q;obtain⟨rfl,hr1⟩:=p1 k j rfl;obtain⟨k1,k2,k3⟩:=nI.o k j rfl;have HP2:=HP.o
  try simp only[]at HP2
  have hgA:=aI p3 (World.grownBy_alloc w1 (.cells #[.string ⟨k.toArray⟩,.int .i64 (i:Nat)] 196) none);have Gx:Rd (w1.alloc (.cells #[.string ⟨k.toArray⟩,.int .i64 (i:Nat)] 196)) R s j T:=hr1.grow (World.grownBy_alloc _ _ none);have Gy:=heap_alloc_new w1 (.cells #[.string ⟨k.toArray⟩,.int .i64 (i:Nat)] 196);obtain⟨K,hK⟩:=zN (w1.heap.size);rw[hK]at Gy;obtain⟨w2,hw2⟩:=zN (w1.alloc (.cells #[.string ⟨k.toArray⟩,.int .i64 (i:Nat)] 196));rw[hw2]at hgA Gx Gy;have HG2:Hd (w.grownBy w2 (some R)):=hgA;have HR2:Hd (Rd w2 R s j T):=Gx;have eY:Hd (w2.heap[K]?=some (.cells #[.string ⟨k.toArray⟩,.int .i64 (i:Nat)] 196 (0,0))):=Gy;have C3:=CS.o j w2 Gx k2;obtain⟨b1,b2⟩:=fP.o j k2;obtain⟨j3,hj3⟩:=zN (bl s.data.toList j);rw[hj3]at C3 b1 b2 HP2;have C3':Hd (Calls prog 73 #[.pointer (some ⟨R,0,none⟩)] w2 fun e w'=>e=.returned (.tuple #[])/\Rd w' R s j3 T/\w2.grownBy w' (some R)):=C3
  have uz:=CT.o j3;have oM:=BU.o j3;obtain⟨MU,iQ⟩:=zN (must s.data.toList j3 61);rw[iQ]at uz oM HP2;have Gz:Hd (∀w',Rd w' R s j3 T->w.grownBy w' (some R)->j3<=s.size->Calls prog 79 #[.pointer (some ⟨R,0,none⟩),.int .i64 61] w' fun e w''=>(∃v,e=.returned v/\Hd ((∀q,MU=.ok q->v=.nilIface/\Rd w'' R s q T)/\(∀c p,MU=.error (c,p)->∃F,v=.iface 104 (.pointer (some ⟨F,0,none⟩))/\aF w'' v E c p)))/\w'.grownBy w'' (some R)):=uz;have aa6:Hd (∀q,MU=.ok q->q=j3+1/\j3<s.size):=oM;have qR:Hd (S=_):=HP2;clear p1 p2 p3 hr1 hgA Gx Gy hj3 C3 uz oM iQ HP2 HP nI;go_wp2_with (go_at_call 73;refine C3'.o.mono ?_);rintro e w3 ⟨rfl,hr3,hg3⟩;have HR3:Hd (Rd w3 R s j3 T):=hr3;have aQ:Hd (w.grownBy w3 (some R)):=kK HG2.o hg3;have jO:Hd (w3.heap[K]?=some (.cells #[.string ⟨k.toArray⟩,.int .i64 (i:Nat)] 196 (0,0))):=(hg3.block K (aA eY.o) (by simp only[ne_eq,Option.some.injEq];exact aY eY.o HR2.o (by decide))).trans eY.o
  clear hr3 hg3;go_wp2_with (go_at_call 79;refine(Gz.o _ HR3.o aQ.o b2).mono ?_);rintro e w4 ⟨⟨v,rfl,hv⟩,hg4⟩;have fD:Hd (w.grownBy w4 (some R)):=kK aQ.o hg4;have oN:Hd (w4.heap[K]?=some (.cells #[.string ⟨k.toArray⟩,.int .i64 (i:Nat)] 196 (0,0))):=(hg4.block K (aA jO.o) (by simp only[ne_eq,Option.some.injEq];exact aY jO.o HR3.o (by decide))).trans jO.o;clear hg4
  cases MU with
  | error ec =>
   obtain⟨ec1,ec2⟩:=ec;obtain⟨F,rfl,hF⟩:=hv.o.2 ec1 ec2 rfl;have aZ:Hd (aF w4 (.iface 104 (.pointer (some ⟨F,0,none⟩))) E ec1 ec2):=hF;have aj:Hd (S=.error (ec1,ec2)):=qR.o;clear hv hF;go_wp2;refine bodyPost_ret (results_tmp (t:=2) rfl _ _ _) rfl ?_;rw[aj.o];exact⟨fun d hh=>(by cases hh),fun c p hh=>(by cases hh;exact⟨F,rfl,aZ.o⟩),iP fD.o hR hB⟩
  | ok j4 =>
   obtain⟨rfl,hr4⟩:=hv.o.1 j4 rfl;obtain⟨m1,m2⟩:=aa6.o j4 rfl;have HR4:Hd (Rd w4 R s j4 T):=hr4;have nM:=qR.o
   try simp only[]at nM
   have GG:Hd (S=_):=nM;have Kq:=CF.o k;have Kr:=CV.o k;obtain⟨KO,Si⟩:=zN (aG ns now k);rw[Si]at Kq Kr GG;have aa7:Hd (∀w',k.length<=1048576->w.grownBy w' (some R)->Calls prog 122 #[.pointer (some ⟨T,0,none⟩),.agg #[.string ⟨k.toArray⟩,.int .i64 (i:Nat)]] w' fun e w''=>(∃v,e=.returned v/\Hd ((KO=none->v=.nilIface)/\(∀q,KO=some q->∃F,v=.iface 104 (.pointer (some ⟨F,0,none⟩))/\aF w'' v E 5 i)))/\w'.grownBy w'' none):=Kq;have Sj:Hd (∀j w',k.length<=1048576->j<=s.size->i<=j->KO=none->w.grownBy w' (some R)->Rd w' R s j T->Calls prog 123 #[.pointer (some ⟨R,0,none⟩),.int .i64 (now:Nat),.agg #[.string ⟨k.toArray⟩,.int .i64 (i:Nat)],.int .i64 0] w' fun e w''=>∃u,e=.returned u/\Hd (lT B R T s E (Gv own now (val s.data.toList (2*s.data.toList.length+2) j now k i 0 ns)) w (.returned u) w'')):=Kr;obtain⟨-,-,r2,-⟩:=hr4.cells;obtain⟨q0,q1,-⟩:=gQ oN.o
   clear hv hr4 qR nM Kq Kr CF CV Si;go_upto_region 8 with fail
   go_cut [6] from 22 (fun v6 wx=>Hd ((KO=none->v6=.nilIface)/\(∀q,KO=some q->∃F,v6=.iface 104 (.pointer (some ⟨F,0,none⟩))/\aF wx v6 E 5 i))/\w4.grownBy wx none)
   case first =>
    go_region_with (first|(go_at_call 122;refine(aa7.o _ k3 (aI fD.o (kP w4))).mono ?_;rintro e w5 ⟨⟨v,rfl,hv⟩,hg5⟩))
    all_goals (
     go_wp2_with fail;go_meet;exact⟨hv,af (kP w4) hg5⟩)
   case rest =>
    obtain⟨hv,hgc⟩:=hcut;have lQ:Hd (w.grownBy wc (some R)):=aI fD.o hgc;have iy:Hd (Rd wc R s j4 T):=HR4.o.grow hgc;have yh:Hd (wc.heap[K]?=some (.cells #[.string ⟨k.toArray⟩,.int .i64 (i:Nat)] 196 (0,0))):=jl oN.o hgc;clear hgc r2 q0 q1
    cases KO with
    | some q =>
     obtain⟨F,rfl,hF⟩:=hv.o.2 q rfl;have aZ:Hd (aF wc (.iface 104 (.pointer (some ⟨F,0,none⟩))) E 5 i):=hF;have aj:Hd (S=.error (5,i)):=GG.o;clear hv hF;go_wp2;refine bodyPost_ret (results_tmp (t:=2) rfl _ _ _) rfl ?_;rw[aj.o];exact⟨fun d hh=>(by cases hh),fun c p hh=>(by cases hh;exact⟨F,rfl,aZ.o⟩),iP lQ.o hR hB⟩
    | none =>
     obtain rfl:=hv.o.1 rfl;have Sl:j4<=s.size:=by omega
     have C6:=CS.o j4 wc iy.o Sl;obtain⟨b3,b4⟩:=fP.o j4 Sl;have GH:=GG.o
     try simp only[]at GH
     obtain⟨j6,Sr⟩:=zN (bl s.data.toList j4);rw[Sr]at C6 b3 b4 GH;have C6':Hd (Calls prog 73 #[.pointer (some ⟨R,0,none⟩)] wc fun e w'=>e=.returned (.tuple #[])/\Rd w' R s j6 T/\wc.grownBy w' (some R)):=C6;have CV6:Hd (∀w',w.grownBy w' (some R)->Rd w' R s j6 T->Calls prog 123 #[.pointer (some ⟨R,0,none⟩),.int .i64 (now:Nat),.agg #[.string ⟨k.toArray⟩,.int .i64 (i:Nat)],.int .i64 0] w' fun e w''=>∃u,e=.returned u/\Hd (lT B R T s E S w (.returned u) w'')):=fun w' a b=>by rw[GH];exact Sj.o j6 w' k3 b4 (by omega) rfl a b
     clear hv Sr C6 GH Sj GG;go_wp2_with (go_at_call 73;refine C6'.o.mono ?_);rintro e w6 rfl oO bG;have lS:Hd (w.grownBy w6 (some R)):=kK lQ.o bG;have fG:Hd (Rd w6 R s j6 T):=oO;have hk6:=(bG.block K (aA yh.o) (by simp only[ne_eq,Option.some.injEq];exact aY yh.o iy.o (by decide))).trans yh.o;obtain⟨q0,q1,-⟩:=gQ hk6;obtain⟨-,-,r2,-⟩:=oO.cells;obtain⟨t2,-⟩:=(mO.o.keepR H0.o lS.o).two;clear oO bG hk6;go_wp2;go_region_with (first|(go_at_call 123;refine(CV6.o _ (aI lS.o (kP w6)) fG.o).mono ?_;rintro e w7 ⟨u,rfl,hu⟩))
     all_goals (
      go_wp2;refine bodyPost_ret (results_tmp (t:=2) rfl _ _ _) rfl ?_;exact hu.o)
open Go.RowKit Go.Maps Go.WideMaps Go.Joins
theorem Ku(l:List UInt8):∀(f i:Nat) (acc ks:List (List UInt8 × Nat)) (j:Nat),i<=l.length->(∀x∈acc,x.1.length<=l.length)->iD l f i acc=.ok (ks,j)->(∀x∈ks,x.1.length<=l.length)/\acc.length<ks.length/\ks.length+i<=acc.length+j/\j<=l.length:=by
 intro f
 induction f with
 | zero=>intro i acc ks j hi ha h;cases h
 | succ f ih =>
  intro i acc ks j hi ha h;rw[zI]at h;have b1:=lh l i hi
  cases hk:eG l (bl l i) with
  | error e=>rw[hk]at h;cases h
  | ok q =>
   obtain⟨k,j1⟩:=q;rw[hk]at h;simp only[]at h;obtain⟨k1,k2,k3⟩:=zD l (bl l i) k j1 b1.2 hk;have b2:=lh l j1 k2;have ha':∀x∈acc++[(k,bl l i)],x.1.length<=l.length:=fun x hx=>by
    rcases List.mem_append.1 hx with hx|hx
    ·exact ha x hx
    ·rw[List.mem_singleton.1 hx];exact k3
   split at h
   ·rename_i hx;have hlt:=cZ (l:=l) (i:=bl l j1) (by rw[hx];decide);obtain⟨a,b,c,d⟩:=ih (bl l j1+1) (acc++[(k,bl l i)]) ks j (by omega) ha' h;rw[List.length_append,List.length_singleton]at b c;exact⟨a,by omega,by omega,d⟩
   ·cases h
    refine⟨ha',by simp,?_,b2.2⟩;rw[List.length_append,List.length_singleton];omega
def BV(j:Nat)(own:List Nat):Rs (Nat × List Tn)->Rs Sd
 | .error e=>.error e
 | .ok (t,ns)=>.ok ⟨j,ns,t :: own,t⟩
theorem GI(l:List UInt8)(i:Nat)(ns:List Tn)(own:List Nat)(now:Nat)(many:Bool)(hm:decide (nx l (i+1)=91)=many):jS l ⟨i,ns,own,now⟩ =
  match iD l (l.length+1) (if many=true then i+2 else i+1) [] with
  | .error e=>.error e
  | .ok (ks,j)=>match must l j 93 with
   | .error e=>.error e
   | .ok j1=>match (if many=true then must l j1 93 else .ok j1) with
    | .error e=>.error e
    | .ok j2=>BV j2 own (way many own ks 0 ns):=by
 unfold jS;simp only[hm]
 cases iD l (l.length+1) (if many=true then i+2 else i+1) [] with
 | error e=>rfl
 | ok q =>
  obtain⟨ks,j⟩:=q;simp only[]
  cases must l j 93 with
  | error e=>rfl
  | ok j1 =>
   simp only[]
   cases (if many=true then must l j1 93 else .ok j1) with
   | error e=>rfl
   | ok j2 =>
    simp only[]
    cases way many own ks 0 ns with
    | error e=>rfl
    | ok q=>rfl
theorem aa8{B R T:Nat}{s:ByteArray}{E:Int->TypeId × Value}{own:List Nat}{j:Nat}{v:Rs (Nat × List Tn)}{w w' w'':World}{e:Ending}(hb:Below B w w')(hr:Rd w' R s j T)(h:QR B T own E v w' e w''):∃u,e=.returned u/\Hd (lT B R T s E (BV j own v) w (.returned u) w''):=by
 cases v with
 | error ec =>
  obtain⟨c,p⟩:=ec;obtain⟨u,rfl,F,rfl,hF⟩:=h.2.1 c p rfl;exact⟨_,rfl,fun d hh=>(by cases hh),fun c p hh=>(by cases hh;exact⟨F,rfl,F,rfl,hF⟩),hb.trans h.2.2.bel⟩
 | ok q =>
  obtain⟨t,ns⟩:=q;obtain⟨rfl,h1⟩:=h.1 t ns rfl;exact⟨_,rfl,fun d hh=>(by cases hh;exact⟨rfl,hr.fr h.2.2,h1⟩),fun c p hh=>(by cases hh),hb.trans h.2.2.bel⟩
open Go.RowKit Go.Maps Go.WideMaps Go.Joins
theorem KyR.keepR{w w':World}{g R:Nat}{l:List (List UInt8 × Nat)}{s:ByteArray}{i T:Nat}(h:KyR w g l)(hr:Rd w R s i T)(hg:w.grownBy w' (some R)):KyR w' g l:=by
 obtain⟨cur,h1,h2⟩:=h;exact⟨cur,(hg.block g (aA h1) (by simp only[ne_eq,Option.some.injEq];exact aY h1 hr (by decide))).trans h1,h2⟩
theorem aa9(B R T:Nat)(s:ByteArray)(E:Int->TypeId × Value)(own:List Nat)(now i:Nat)(ns:List Tn)(w:World)(h:Rd w R s i T)(htr:Tr w B T ns own now)(G:Gl w B E)(hR:B<=R)(hi:i<s.size)(hs:s.size<=100000)(J:Jt ns own now)(h0:ag ns 0=0)(hsz:ns.length+own.length+(s.size-i)<=700000) :
  Calls prog 75 #[.pointer (some ⟨R,0,none⟩)] w (lT B R T s E (jS s.data.toList ⟨i,ns,own,now⟩) w):=by
 have hl:s.data.toList.length=s.size:=by simp
 have hB:B<=w.heap.size:=htr.base;have CN:Hd (∀k w,Rd w R s k T->k<=s.size->Calls prog 74 #[.pointer (some ⟨R,0,none⟩)] w fun e w'=>e=.returned (.int .i64 (nx s.data.toList k))/\w.grownBy w' none):=fun k w h1 h2=>mr R s k T w h1 h2 (by omega)
 have CK:Hd (∀a w',Rd w' R s a T->w.grownBy w' (some R)->a<=s.size->Calls prog 117 #[.pointer (some ⟨R,0,none⟩)] w' (Gp R s T E (iD s.data.toList (s.data.toList.length+1) a []) w')):=fun a w' h1 hg ha=>aaJ R s a T B E w' h1 ha hs (G.gb hg hR hB) hR (Nat.le_trans hB hg.size)
 have CT:Hd (∀k w',Rd w' R s k T->w.grownBy w' (some R)->k<=s.size->Calls prog 79 #[.pointer (some ⟨R,0,none⟩),.int .i64 93] w' fun e w''=>(∃v,e=.returned v/\Hd ((∀q,must s.data.toList k 93=.ok q->v=.nilIface/\Rd w'' R s q T)/\(∀c p,must s.data.toList k 93=.error (c,p)->∃F,v=.iface 104 (.pointer (some ⟨F,0,none⟩))/\aF w'' v E c p)))/\w'.grownBy w'' (some R)):=fun k w' h1 hg hk =>
  (Jf R s k T 93 (E 2).1 (E 2).2 w' h1 hk (by omega) (by decide) (G.gb hg hR hB).es.te).mono fun e w'' ⟨a1,a2,a3⟩=>by
   unfold must
   by_cases hx:nx s.data.toList k=93
   ·rw[if_pos hx];exact⟨⟨_,(a1 hx).1,fun q hq=>(by cases hq;exact⟨rfl,(a1 hx).2⟩),fun c p hp=>(by cases hp)⟩,a3⟩
   ·rw[if_neg hx];obtain⟨⟨v,e1,F,rfl,hF⟩,-⟩:=a2 hx;exact⟨⟨_,e1,fun q hq=>(by cases hq),fun c p hp=>(by cases hp;exact⟨F,rfl,F,rfl,hF⟩)⟩,a3⟩
 have CE:Hd (∀(many:Bool) ks d g c j w',ks.length=d+1->d+1<=c->d<=s.size-i->(∀x∈ks,x.1.length<=1048576)->KyR w' g ks->Rd w' R s j T->w.grownBy w' (some R)->Calls prog 118 #[.pointer (some ⟨T,0,none⟩),.slice (some ⟨g,0,none⟩) ks.length c,.bool many] w' fun e w''=>∃u,e=.returned u/\Hd (lT B R T s E (BV j own (way many own ks 0 ns)) w (.returned u) w'')):=fun many ks d g c j w' a1 a2 a3 a4 a5 a6 hg=>by
  rw[a1];exact(aas B T ns own now E ks many g c d w' (htr.keepR h hg) ⟨J.wf,J.wt,by have:=J.lt;omega,h0⟩ a1 a2 a5 (by omega) a4 (G.gb hg hR hB).es G.lo).mono fun e w'' hv=>aa8 (iP hg hR hB) a6 hv
 have nI:Hd (∀a ks j,a<=s.size->iD s.data.toList (s.data.toList.length+1) a []=.ok (ks,j)->(∀x∈ks,x.1.length<=1048576)/\0<ks.length/\ks.length+a<=j/\j<=s.size):=fun a ks j ha hh=>by
  obtain⟨b1,b2,b3,b4⟩:=Ku s.data.toList _ a [] ks j (by omega) (by simp) hh;refine⟨fun x hx=>by have:=b1 x hx;omega,by simpa using b2,by simpa using b3,by omega⟩
 have BU:Hd (∀k q,must s.data.toList k 93=.ok q->q=k+1/\k<s.size):=fun k q a=>by
  unfold must at a;split at a
  ·rename_i hx;have:=cZ (l:=s.data.toList) (i:=k) (by rw[hx];decide)
   cases a
   omega
  ·cases a
 have Su:Hd (nx s.data.toList (i+1)=91->i+1<s.size):=fun hx=>by
  have:=cZ (l:=s.data.toList) (i:=i+1) (by rw[hx];decide);omega
 obtain⟨many,kS⟩:=zN (decide (nx s.data.toList (i+1)=91));have jb:=GI s.data.toList i ns own now many kS;obtain⟨S,hS⟩:=zN (jS s.data.toList ⟨i,ns,own,now⟩);rw[hS]at jb ⊢;have HP:Hd (S=_):=jb;obtain⟨-,r1,-,rf⟩:=h.cells;have rf1:=rf 1;have HR1:Hd (Rd (w.setCell ⟨R,1,none⟩ (.int .i64 ((i:Int)+1))) R s (i+1) T):=h.set (i+1);have aB:Hd (w.grownBy (w.setCell ⟨R,1,none⟩ (.int .i64 ((i:Int)+1))) (some R)):=jL w R 1 _;have C1:Hd (Calls prog 74 #[.pointer (some ⟨R,0,none⟩)] (w.setCell ⟨R,1,none⟩ (.int .i64 ((i:Int)+1))) fun e w'=>e=.returned (.int .i64 (nx s.data.toList (i+1)))/\(w.setCell ⟨R,1,none⟩ (.int .i64 ((i:Int)+1))).grownBy w' none):=CN.o (i+1) _ HR1.o (by omega);obtain⟨x,hx⟩:=zN (nx s.data.toList (i+1));rw[hx]at C1 kS Su;have zK:Hd (decide (x=91)=many):=kS;clear jb hS hx kS h htr G J rf;go_enter func75,ntmps75
 go_wp2_with (go_at_call 74;refine C1.o.mono ?_);rintro e w1 ⟨rfl,hg1⟩;have Kv:Hd (Rd w1 R s (i+1) T):=HR1.o.grow hg1;have uy:Hd (w.grownBy w1 (some R)):=aI aB.o hg1;clear hg1 r1 rf1
 cases many with
 | false =>
  have c91:¬x=91:=of_decide_eq_false zK.o;have e91:(x == 91)=false:=by simp[c91]
  clear c91;have BX:Hd (∀w',Rd w' R s (i+1) T->w.grownBy w' (some R)->Calls prog 117 #[.pointer (some ⟨R,0,none⟩)] w' (Gp R s T E (iD s.data.toList (s.data.toList.length+1) (i+1) []) w')):=fun w' a b=>CK.o (i+1) w' a b (by omega)
  have yj:=nI.o (i+1);have dI:=HP.o;simp only[Bool.false_eq_true,if_false]at dI;obtain⟨KR,qP⟩:=zN (iD s.data.toList (s.data.toList.length+1) (i+1) []);rw[qP]at BX yj dI;have BZ:Hd (∀ks j,(i+1)<=s.size->KR=.ok (ks,j)->(∀x∈ks,x.1.length<=1048576)/\0<ks.length/\ks.length+(i+1)<=j/\j<=s.size):=yj;have yt:Hd (S=_):=dI;clear yj dI qP HP CK nI;go_wp2_with (go_at_call 117;refine(BX.o _ Kv.o uy.o).mono ?_);rintro e w2 ⟨p1,p2,p3⟩;have HG2:Hd (w.grownBy w2 (some R)):=kK uy.o p3
  cases KR with
  | error ec =>
   obtain⟨ec1,ec2⟩:=ec;obtain⟨F,rfl,hF⟩:=p2 ec1 ec2 rfl;have aZ:Hd (aF w2 (.iface 104 (.pointer (some ⟨F,0,none⟩))) E ec1 ec2):=hF;have aj:Hd (S=.error (ec1,ec2)):=yt.o;clear p1 p2 p3 hF;go_wp2;refine bodyPost_ret (results_tmp (t:=2) rfl _ _ _) rfl ?_;rw[aj.o];exact⟨fun d hh=>(by cases hh),fun c p hh=>(by cases hh;exact⟨F,rfl,aZ.o⟩),iP HG2.o hR hB⟩
  | ok q =>
   obtain⟨ks,j⟩:=q;obtain⟨g,c,rfl,hky,hkc,hr2⟩:=p1 ks j rfl;obtain⟨k1,k2,k3,k4⟩:=BZ.o ks j (by omega) rfl;have eY:Hd (KyR w2 g ks):=hky;have HR2:Hd (Rd w2 R s j T):=hr2;have zB:Hd (∀x∈ks,x.1.length<=1048576):=k1;have HP2:=yt.o
   try simp only[]at HP2
   have qQ:=CT.o j;have nN:=BU.o j;obtain⟨MU,iQ⟩:=zN (must s.data.toList j 93);rw[iQ]at qQ nN HP2;have Cb:Hd (∀w',Rd w' R s j T->w.grownBy w' (some R)->j<=s.size->Calls prog 79 #[.pointer (some ⟨R,0,none⟩),.int .i64 93] w' fun e w''=>(∃v,e=.returned v/\Hd ((∀q,MU=.ok q->v=.nilIface/\Rd w'' R s q T)/\(∀c p,MU=.error (c,p)->∃F,v=.iface 104 (.pointer (some ⟨F,0,none⟩))/\aF w'' v E c p)))/\w'.grownBy w'' (some R)):=qQ;have Cc:Hd (∀q,MU=.ok q->q=j+1/\j<s.size):=nN;have qR:Hd (S=_):=HP2;clear p1 p2 p3 hky hr2 k1 qQ nN HP2 iQ yt BZ;go_wp2_with (go_at_call 79;refine(Cb.o _ HR2.o HG2.o k4).mono ?_);rintro e w3 ⟨⟨v,rfl,hv⟩,hg3⟩;have aQ:Hd (w.grownBy w3 (some R)):=kK HG2.o hg3;have jO:Hd (KyR w3 g ks):=eY.o.keepR HR2.o hg3;clear hg3
   cases MU with
   | error ec =>
    obtain⟨ec1,ec2⟩:=ec;obtain⟨F,rfl,hF⟩:=hv.o.2 ec1 ec2 rfl;have aZ:Hd (aF w3 (.iface 104 (.pointer (some ⟨F,0,none⟩))) E ec1 ec2):=hF;have aj:Hd (S=.error (ec1,ec2)):=qR.o;clear hv hF;go_wp2;refine bodyPost_ret (results_tmp (t:=2) rfl _ _ _) rfl ?_;rw[aj.o];exact⟨fun d hh=>(by cases hh),fun c p hh=>(by cases hh;exact⟨F,rfl,aZ.o⟩),iP aQ.o hR hB⟩
   | ok j1 =>
    obtain⟨rfl,hr3⟩:=hv.o.1 j1 rfl;obtain⟨m1,m2⟩:=Cc.o j1 rfl;have HR3:Hd (Rd w3 R s j1 T):=hr3;have pR:=qR.o
    try simp only[]at pR
    clear hv hr3 qR Cc Cb;have nM:S=BV j1 own (way false own ks 0 ns):=pR;clear pR;obtain⟨d,hd⟩:∃d,ks.length=d+1:=⟨ks.length-1,by omega⟩;have xQ:Hd (Calls prog 118 #[.pointer (some ⟨T,0,none⟩),.slice (some ⟨g,0,none⟩) ks.length c,.bool false] w3 fun e w''=>∃u,e=.returned u/\Hd (lT B R T s E S w (.returned u) w'')):=by
     rw[nM];exact CE.o false ks d g c j1 w3 hd (by omega) (by omega) zB.o jO.o HR3.o aQ.o
    obtain⟨-,-,rr,-⟩:=HR3.o.cells;clear nM CE hd;go_wp2_with (go_at_call 118;refine xQ.o.mono ?_;rintro e w9 ⟨u,rfl,hu⟩);refine bodyPost_ret (results_tmp (t:=2) rfl _ _ _) rfl ?_;exact hu.o
 | true =>
  have c91:x=91:=of_decide_eq_true zK.o;have e91:(x == 91)=true:=by simp[c91]
  have hx1:=Su.o c91;obtain⟨-,s1,-,sf⟩:=Kv.o.cells;have sf1:=sf 1;have e2:((i+1:Nat):Int)+1=((i+2:Nat):Int):=by omega
  have HRb:Hd (Rd (w1.setCell ⟨R,1,none⟩ (.int .i64 (((i+1:Nat):Int)+1))) R s (i+2) T):=Kv.o.set (i+2);have Sv:Hd (w.grownBy (w1.setCell ⟨R,1,none⟩ (.int .i64 (((i+1:Nat):Int)+1))) (some R)):=dD uy.o 1 _;clear c91 sf e2;have BX:Hd (∀w',Rd w' R s (i+2) T->w.grownBy w' (some R)->Calls prog 117 #[.pointer (some ⟨R,0,none⟩)] w' (Gp R s T E (iD s.data.toList (s.data.toList.length+1) (i+2) []) w')):=fun w' a b=>CK.o (i+2) w' a b (by omega)
  have yj:=nI.o (i+2);have dI:=HP.o;simp only[if_true]at dI;obtain⟨KR,qP⟩:=zN (iD s.data.toList (s.data.toList.length+1) (i+2) []);rw[qP]at BX yj dI;have BZ:Hd (∀ks j,(i+2)<=s.size->KR=.ok (ks,j)->(∀x∈ks,x.1.length<=1048576)/\0<ks.length/\ks.length+(i+2)<=j/\j<=s.size):=yj;have yt:Hd (S=_):=dI;clear yj dI qP HP CK nI;go_wp2_with (go_at_call 117;refine(BX.o _ HRb.o Sv.o).mono ?_);rintro e w2 ⟨p1,p2,p3⟩;have HG2:Hd (w.grownBy w2 (some R)):=kK Sv.o p3
  cases KR with
  | error ec =>
   obtain⟨ec1,ec2⟩:=ec;obtain⟨F,rfl,hF⟩:=p2 ec1 ec2 rfl;have aZ:Hd (aF w2 (.iface 104 (.pointer (some ⟨F,0,none⟩))) E ec1 ec2):=hF;have aj:Hd (S=.error (ec1,ec2)):=yt.o;clear p1 p2 p3 hF;go_wp2;refine bodyPost_ret (results_tmp (t:=2) rfl _ _ _) rfl ?_;rw[aj.o];exact⟨fun d hh=>(by cases hh),fun c p hh=>(by cases hh;exact⟨F,rfl,aZ.o⟩),iP HG2.o hR hB⟩
  | ok q =>
   obtain⟨ks,j⟩:=q;obtain⟨g,c,rfl,hky,hkc,hr2⟩:=p1 ks j rfl;obtain⟨k1,k2,k3,k4⟩:=BZ.o ks j (by omega) rfl;have eY:Hd (KyR w2 g ks):=hky;have HR2:Hd (Rd w2 R s j T):=hr2;have zB:Hd (∀x∈ks,x.1.length<=1048576):=k1;have HP2:=yt.o
   try simp only[]at HP2
   have qQ:=CT.o j;have nN:=BU.o j;obtain⟨MU,iQ⟩:=zN (must s.data.toList j 93);rw[iQ]at qQ nN HP2;have Cb:Hd (∀w',Rd w' R s j T->w.grownBy w' (some R)->j<=s.size->Calls prog 79 #[.pointer (some ⟨R,0,none⟩),.int .i64 93] w' fun e w''=>(∃v,e=.returned v/\Hd ((∀q,MU=.ok q->v=.nilIface/\Rd w'' R s q T)/\(∀c p,MU=.error (c,p)->∃F,v=.iface 104 (.pointer (some ⟨F,0,none⟩))/\aF w'' v E c p)))/\w'.grownBy w'' (some R)):=qQ;have Cc:Hd (∀q,MU=.ok q->q=j+1/\j<s.size):=nN;have qR:Hd (S=_):=HP2;clear p1 p2 p3 hky hr2 k1 qQ nN HP2 iQ yt BZ;go_wp2_with (go_at_call 79;refine(Cb.o _ HR2.o HG2.o k4).mono ?_);rintro e w3 ⟨⟨v,rfl,hv⟩,hg3⟩;have aQ:Hd (w.grownBy w3 (some R)):=kK HG2.o hg3;have jO:Hd (KyR w3 g ks):=eY.o.keepR HR2.o hg3;clear hg3
   cases MU with
   | error ec =>
    obtain⟨ec1,ec2⟩:=ec;obtain⟨F,rfl,hF⟩:=hv.o.2 ec1 ec2 rfl;have aZ:Hd (aF w3 (.iface 104 (.pointer (some ⟨F,0,none⟩))) E ec1 ec2):=hF;have aj:Hd (S=.error (ec1,ec2)):=qR.o;clear hv hF;go_wp2;refine bodyPost_ret (results_tmp (t:=2) rfl _ _ _) rfl ?_;rw[aj.o];exact⟨fun d hh=>(by cases hh),fun c p hh=>(by cases hh;exact⟨F,rfl,aZ.o⟩),iP aQ.o hR hB⟩
   | ok j1 =>
    obtain⟨rfl,hr3⟩:=hv.o.1 j1 rfl;obtain⟨m1,m2⟩:=Cc.o j1 rfl;have HR3:Hd (Rd w3 R s j1 T):=hr3;have pR:=qR.o
    try simp only[]at pR
    clear hv hr3 qR Cc Cb;have uz:=CT.o j1;have oM:=BU.o j1;obtain⟨MV,Sz⟩:=zN (must s.data.toList j1 93);rw[Sz]at uz oM pR;have Gz:Hd (∀w',Rd w' R s j1 T->w.grownBy w' (some R)->j1<=s.size->Calls prog 79 #[.pointer (some ⟨R,0,none⟩),.int .i64 93] w' fun e w''=>(∃v,e=.returned v/\Hd ((∀q,MV=.ok q->v=.nilIface/\Rd w'' R s q T)/\(∀c p,MV=.error (c,p)->∃F,v=.iface 104 (.pointer (some ⟨F,0,none⟩))/\aF w'' v E c p)))/\w'.grownBy w'' (some R)):=uz;have Kw:Hd (S=_):=pR;clear uz oM pR Sz CT;go_wp2_with (go_at_call 79;refine(Gz.o _ HR3.o aQ.o (by omega)).mono ?_);rintro e w4 ⟨⟨v,rfl,hv⟩,hg4⟩;have fD:Hd (w.grownBy w4 (some R)):=kK aQ.o hg4;have oN:Hd (KyR w4 g ks):=jO.o.keepR HR3.o hg4;clear hg4
    cases MV with
    | error ec =>
     obtain⟨ec1,ec2⟩:=ec;obtain⟨F,rfl,hF⟩:=hv.o.2 ec1 ec2 rfl;have aZ:Hd (aF w4 (.iface 104 (.pointer (some ⟨F,0,none⟩))) E ec1 ec2):=hF;have aj:Hd (S=.error (ec1,ec2)):=Kw.o;clear hv hF;go_wp2;refine bodyPost_ret (results_tmp (t:=2) rfl _ _ _) rfl ?_;rw[aj.o];exact⟨fun d hh=>(by cases hh),fun c p hh=>(by cases hh;exact⟨F,rfl,aZ.o⟩),iP fD.o hR hB⟩
    | ok j2 =>
     obtain⟨rfl,hr4⟩:=hv.o.1 j2 rfl;have HR4:Hd (Rd w4 R s j2 T):=hr4;have nM:S=BV j2 own (way true own ks 0 ns):=Kw.o;clear hv hr4 Kw Gz;obtain⟨d,hd⟩:∃d,ks.length=d+1:=⟨ks.length-1,by omega⟩;have xQ:Hd (Calls prog 118 #[.pointer (some ⟨T,0,none⟩),.slice (some ⟨g,0,none⟩) ks.length c,.bool true] w4 fun e w''=>∃u,e=.returned u/\Hd (lT B R T s E S w (.returned u) w'')):=by
      rw[nM];exact CE.o true ks d g c j2 w4 hd (by omega) (by omega) zB.o oN.o HR4.o fD.o
     obtain⟨-,-,rr,-⟩:=HR4.o.cells;clear nM CE hd;go_wp2_with (go_at_call 118;refine xQ.o.mono ?_;rintro e w9 ⟨u,rfl,hu⟩);refine bodyPost_ret (results_tmp (t:=2) rfl _ _ _) rfl ?_;exact hu.o
open Go.RowKit Go.Joins
theorem Ce(ns:List Tn)(up:Nat)(n:Tn)(q:Nat)(hu:up<ns.length)(hq:q<ns.length):ag (addN ns up n) q=ag ns q:=by rw[eH ns up n hu,if_neg (by omega)]
theorem aba{ns ns':List Tn}{own:List Nat}{t t' p:Nat}{k:List UInt8}(J:Jt ns own t)(h:iK ns t k p=.ok (t',ns'))(q:Nat)(hq:q<ns.length):ag ns' q=ag ns q:=by
 unfold iK at h
 cases hk:aG ns t k with
 | none =>
  rw[hk]at h
  cases h
  exact Ce ns t _ q J.lt hq
 | some x =>
  rw[hk]at h;simp only[]at h;split at h
  ·cases h;rfl
  ·split at h
   ·cases hx:ns[x]? with
    | none=>rw[hx]at h;cases h
    | some u=>rw[hx]at h;cases h;rfl
   ·cases h
theorem abb{ns ns':List Tn}{own:List Nat}{t t' p:Nat}{k:List UInt8}(J:Jt ns own t)(h:jA ns own t k p=.ok (t',ns'))(q:Nat)(hq:q<ns.length):ag ns' q=ag ns q:=by
 unfold jA at h
 cases hk:aG ns t k with
 | none =>
  rw[hk]at h
  cases h
  exact Ce ns t _ q J.lt hq
 | some x =>
  rw[hk]at h;simp only[]at h;split at h
  ·cases h;rfl
  ·cases h
theorem abd{ns ns':List Tn}{own:List Nat}{t t' p:Nat}{k:List UInt8}(J:Jt ns own t)(h:iL ns t k p=.ok (t',ns'))(q:Nat)(hq:q<ns.length):ag ns' q=ag ns q:=by
 unfold iL at h
 cases hk:aG ns t k with
 | none =>
  rw[hk]at h
  cases h
  rw[Ce _ _ _ q (by rw[bV];omega) (by rw[bV];omega),Ce _ _ _ q J.lt hq]
 | some x =>
  rw[hk]at h;simp only[]at h;split at h
  ·rename_i h2
   cases h
   exact Ce ns x _ q (qM h2 (by omega)) hq
  ·cases h
theorem SA(many:Bool)(own:List Nat):∀(l:List (List UInt8 × Nat)) (t:Nat) (ns ns':List Tn) (t':Nat),Jt ns own t->way many own l t ns=.ok (t',ns')->∀q,q<ns.length->ag ns' q=ag ns q
 | [],t,ns,ns',t',J,h,q,hq=>by cases h;rfl
 | [(k,p)],t,ns,ns',t',J,h,q,hq=>by
  rw[F7]at h;split at h
  ·exact abd J h q hq
  ·exact abb J h q hq
 | (k,p) :: b :: r,t,ns,ns',t',J,h,q,hq=>by
  rw[Bz]at h
  cases hs:iK ns t k p with
  | error e=>rw[hs]at h;cases h
  | ok z =>
   obtain⟨t1,ns1⟩:=z;rw[hs]at h;obtain⟨a,b',c⟩:=F6 J hs;exact(SA many own (b :: r) t1 ns1 ns' t' a h q (by omega)).trans (aba J hs q hq)
structure Li(l:List UInt8)(d:Sd):Prop where
 jt:Jt d.ns d.own d.now
 rt:ag d.ns 0=0
 le:d.i<=l.length
 nn:d.ns.length<=2*d.i+1
 on:d.own.length<=d.i
theorem vV(l:List UInt8)(k q:Nat)(c:Int)(hc:0<=c)(h:must l k c=.ok q):q=k+1/\k<l.length:=by
 unfold must at h;split at h
 ·rename_i hx;have:=cZ (l:=l) (i:=k) (by omega)
  cases h
  omega
 ·cases h
theorem Ky(l:List UInt8)(d d':Sd)(L:Li l d)(h:rdPair l d=.ok d'):Li l d'/\d.i<d'.i:=by
 obtain⟨i,ns,own,now⟩:=d;have L1:=L.jt;have L2:=L.rt;have L3:=L.le;have L4:=L.nn;have L5:=L.on;simp only[]at L1 L2 L3 L4 L5;rw[Gw]at h
 cases hk:eG l i with
 | error e=>rw[hk]at h;cases h
 | ok q =>
  obtain⟨k,j⟩:=q;rw[hk]at h;simp only[]at h;obtain⟨k1,k2,k3⟩:=zD l i k j L3 hk;have b1:=lh l j k2
  cases hm:must l (bl l j) 61 with
  | error e=>rw[hm]at h;cases h
  | ok j1 =>
   rw[hm]at h;simp only[]at h;obtain⟨m1,m2⟩:=vV l _ _ 61 (by decide) hm;have b2:=lh l j1 (by omega)
   cases hq:aG ns now k with
   | some q=>rw[hq]at h;cases h
   | none =>
    rw[hq]at h;simp only[]at h
    cases hv:val l (2*l.length+2) (bl l j1) now k i 0 ns with
    | error e=>rw[hv]at h;cases h
    | ok z =>
     obtain⟨j2,ns'⟩:=z;rw[hv]at h;have A:=(JJ l own _).1 (bl l j1) now k i 0 ns j2 ns' b2.2 L1.wf L1.wt L1.lt (by rw[L1.kd];decide) hv;have a1:=A.lo;have a2:=A.hi;have a3:=A.fw;have a4:=A.en;have hlt:=L1.lt
     cases h
     exact⟨⟨⟨A.wf,A.wt,by simp only[];omega,(A.kd now L1.lt).trans L1.kd⟩,(A.kd 0 (by omega)).trans L2,a4,by simp only[];omega,by simp only[];omega⟩,by simp only[];omega⟩
theorem Kz(l:List UInt8)(d d':Sd)(L:Li l d)(hi:d.i<l.length)(h:jS l d=.ok d'):Li l d'/\d.i<d'.i:=by
 obtain⟨i,ns,own,now⟩:=d;have L1:=L.jt;have L2:=L.rt;have L3:=L.le;have L4:=L.nn;have L5:=L.on;simp only[]at L1 L2 L3 L4 L5 hi;obtain⟨many,kS⟩:=zN (decide (nx l (i+1)=91));rw[GI l i ns own now many kS]at h;have ha:i+1<=(if many=true then i+2 else i+1)/\(if many=true then i+2 else i+1)<=l.length:=by
  cases many with
  | false=>simp;omega
  | true =>
   have hx:=of_decide_eq_true kS;have:=cZ (l:=l) (i:=i+1) (by rw[hx];decide);simp;omega
 generalize (if many=true then i+2 else i+1)=a at h ha
 cases hk:iD l (l.length+1) a [] with
 | error e=>rw[hk]at h;cases h
 | ok q =>
  obtain⟨ks,j⟩:=q;rw[hk]at h;simp only[]at h;obtain⟨k1,k2,k3,k4⟩:=Ku l _ a [] ks j ha.2 (by simp) hk;simp at k2 k3
  cases hm:must l j 93 with
  | error e=>rw[hm]at h;cases h
  | ok j1 =>
   rw[hm]at h;simp only[]at h;obtain⟨m1,m2⟩:=vV l _ _ 93 (by decide) hm;have hj2:∀j2,(if many=true then must l j1 93 else(.ok j1:Rs Nat))=.ok j2->j1<=j2/\j2<=l.length:=fun j2 hh=>by
    split at hh
    ·obtain⟨n1,n2⟩:=vV l _ _ 93 (by decide) hh;omega
    ·cases hh
     omega
   cases hc:(if many=true then must l j1 93 else(.ok j1:Rs Nat)) with
   | error e=>rw[hc]at h;cases h
   | ok j2 =>
    rw[hc]at h;simp only[]at h;obtain⟨c1,c2⟩:=hj2 j2 hc
    cases hw:way many own ks 0 ns with
    | error e=>rw[hw]at h;cases h
    | ok z =>
     obtain⟨t,ns'⟩:=z;rw[hw]at h;have hlt:=L1.lt;have J0:Jt ns own 0:=⟨L1.wf,L1.wt,by omega,L2⟩;obtain⟨w1,w2,w3⟩:=QP many own ks 0 ns ns' t (by intro e;rw[e]at k2;simp at k2) J0 hw;have w4:=SA many own ks 0 ns ns' t J0 hw 0 (by omega)
     cases h
     exact⟨⟨w1,w4.trans L2,c2,by simp only[];omega,by simp only[List.length_cons];omega⟩,by simp only[];omega⟩
end Go.Proofs.YtmkjelchiacogaaGreatDoor
