import Derived.Test.YtnnbgjaphfhibaaGreatDoorN27
import Derived.Test.YtnnbgjaphfhibaaGreatDoorN28
import Derived.Test.YtnnbgjaphfhibaaGreatDoorN19
set_option linter.unusedVariables false
set_option linter.unusedSimpArgs false
set_option maxRecDepth 100000
set_option maxHeartbeats 6400000
open Go.Proofs.Tryz
namespace Go.Proofs.YtnnbgjaphfhibaaGreatDoor
open Go.RowKit Go.Maps Go.WideMaps Go.Joins
theorem G6(l:List UInt8):∀(f i:Nat) (acc ks:List (List UInt8 × Nat)) (j:Nat),i<=l.length->(∀x∈acc,x.1.length<=l.length)->fF l f i acc=.ok (ks,j)->(∀x∈ks,x.1.length<=l.length)/\acc.length<ks.length/\ks.length+i<=acc.length+j/\j<=l.length:=by
 intro f
 induction f with
 | zero=>intro i acc ks j hi ha h;cases h
 | succ f ih =>
  intro i acc ks j hi ha h;rw[BV]at h;have b1:=jA l i hi
  cases hk:bW l (bl l i) with
  | error e=>rw[hk]at h;cases h
  | ok q =>
   obtain⟨k,j1⟩:=q;rw[hk]at h;simp only[]at h;obtain⟨k1,k2,k3⟩:=uZ l (bl l i) k j1 b1.2 hk;have b2:=jA l j1 k2;have ha':∀x∈acc++[(k,bl l i)],x.1.length<=l.length:=fun x hx=>by
    rcases List.mem_append.1 hx with hx|hx
    ·exact ha x hx
    ·rw[List.mem_singleton.1 hx];exact k3
   split at h
   ·rename_i hx;have hlt:=bu (l:=l) (i:=bl l j1) (by rw[hx];decide);obtain⟨a,b,c,d⟩:=ih (bl l j1+1) (acc++[(k,bl l i)]) ks j (by omega) ha' h;rw[List.length_append,List.length_singleton]at b c;exact⟨a,by omega,by omega,d⟩
   ·cases h
    refine⟨ha',by simp,?_,b2.2⟩;rw[List.length_append,List.length_singleton];omega
def wJ(j:Nat)(own:List Nat):Rs (Nat × List Tn)->Rs Sd
 | .error e=>.error e
 | .ok (t,ns)=>.ok ⟨j,ns,t :: own,t⟩
theorem Cf(l:List UInt8)(i:Nat)(ns:List Tn)(own:List Nat)(now:Nat)(many:Bool)(hm:decide (nx l (i+1)=91)=many):fQ l ⟨i,ns,own,now⟩ =
  match fF l (l.length+1) (if many=true then i+2 else i+1) [] with
  | .error e=>.error e
  | .ok (ks,j)=>match must l j 93 with
   | .error e=>.error e
   | .ok j1=>match (if many=true then must l j1 93 else .ok j1) with
    | .error e=>.error e
    | .ok j2=>wJ j2 own (way many own ks 0 ns):=by
 unfold fQ;simp only[hm]
 cases fF l (l.length+1) (if many=true then i+2 else i+1) [] with
 | error e=>rfl
 | ok q =>
  obtain⟨ks,j⟩:=q;simp only[]
  cases must l j 93 with
  | error e=>rfl
  | ok j1 =>
   simp only[]
   cases (if many=true then must l j1 93 else .ok j1) with
   | error e=>rfl
   | ok j2 =>
    simp only[]
    cases way many own ks 0 ns with
    | error e=>rfl
    | ok q=>rfl
theorem aci{B R T:Nat}{s:ByteArray}{E:Int->TypeId × Value}{own:List Nat}{j:Nat}{v:Rs (Nat × List Tn)}{w w' w'':World}{e:Ending}(hb:Below B w w')(hr:Rd w' R s j T)(h:RD B T own E v w' e w''):∃u,e=.returned u/\Hd (lU B R T s E (wJ j own v) w (.returned u) w''):=by
 cases v with
 | error ec =>
  obtain⟨c,p⟩:=ec;obtain⟨u,rfl,F,rfl,hF⟩:=h.2.1 c p rfl;exact⟨_,rfl,fun d hh=>(by cases hh),fun c p hh=>(by cases hh;exact⟨F,rfl,F,rfl,hF⟩),hb.trans h.2.2.bel⟩
 | ok q =>
  obtain⟨t,ns⟩:=q;obtain⟨rfl,h1⟩:=h.1 t ns rfl;exact⟨_,rfl,fun d hh=>(by cases hh;exact⟨rfl,hr.fr h.2.2,h1⟩),fun c p hh=>(by cases hh),hb.trans h.2.2.bel⟩
open Go.RowKit Go.Joins
theorem Ci(ns:List Tn)(up:Nat)(n:Tn)(q:Nat)(hu:up<ns.length)(hq:q<ns.length):aj (addN ns up n) q=aj ns q:=by rw[eQ ns up n hu,if_neg (by omega)]
theorem acj{ns ns':List Tn}{own:List Nat}{t t' p:Nat}{k:List UInt8}(J:Jt ns own t)(h:fD ns t k p=.ok (t',ns'))(q:Nat)(hq:q<ns.length):aj ns' q=aj ns q:=by
 unfold fD at h
 cases hk:ah ns t k with
 | none =>
  rw[hk]at h
  cases h
  exact Ci ns t _ q J.lt hq
 | some x =>
  rw[hk]at h;simp only[]at h;split at h
  ·cases h;rfl
  ·split at h
   ·cases hx:ns[x]? with
    | none=>rw[hx]at h;cases h
    | some u=>rw[hx]at h;cases h;rfl
   ·cases h
theorem ack{ns ns':List Tn}{own:List Nat}{t t' p:Nat}{k:List UInt8}(J:Jt ns own t)(h:fJ ns own t k p=.ok (t',ns'))(q:Nat)(hq:q<ns.length):aj ns' q=aj ns q:=by
 unfold fJ at h
 cases hk:ah ns t k with
 | none =>
  rw[hk]at h
  cases h
  exact Ci ns t _ q J.lt hq
 | some x =>
  rw[hk]at h;simp only[]at h;split at h
  ·cases h;rfl
  ·cases h
theorem acl{ns ns':List Tn}{own:List Nat}{t t' p:Nat}{k:List UInt8}(J:Jt ns own t)(h:fK ns t k p=.ok (t',ns'))(q:Nat)(hq:q<ns.length):aj ns' q=aj ns q:=by
 unfold fK at h
 cases hk:ah ns t k with
 | none =>
  rw[hk]at h
  cases h
  rw[Ci _ _ _ q (by rw[bZ];omega) (by rw[bZ];omega),Ci _ _ _ q J.lt hq]
 | some x =>
  rw[hk]at h;simp only[]at h;split at h
  ·rename_i h2
   cases h
   exact Ci ns x _ q (nz h2 (by omega)) hq
  ·cases h
theorem UN(many:Bool)(own:List Nat):∀(l:List (List UInt8 × Nat)) (t:Nat) (ns ns':List Tn) (t':Nat),Jt ns own t->way many own l t ns=.ok (t',ns')->∀q,q<ns.length->aj ns' q=aj ns q
 | [],t,ns,ns',t',J,h,q,hq=>by cases h;rfl
 | [(k,p)],t,ns,ns',t',J,h,q,hq=>by
  rw[Ai]at h;split at h
  ·exact acl J h q hq
  ·exact ack J h q hq
 | (k,p) :: b :: r,t,ns,ns',t',J,h,q,hq=>by
  rw[Aj]at h
  cases hs:fD ns t k p with
  | error e=>rw[hs]at h;cases h
  | ok z =>
   obtain⟨t1,ns1⟩:=z;rw[hs]at h;obtain⟨a,b',c⟩:=Ah J hs;exact(UN many own (b :: r) t1 ns1 ns' t' a h q (by omega)).trans (acj J hs q hq)
structure Li(l:List UInt8)(d:Sd):Prop where
 jt:Jt d.ns d.own d.now
 rt:aj d.ns 0=0
 le:d.i<=l.length
 nn:d.ns.length<=2*d.i+1
 on:d.own.length<=d.i
theorem wK(l:List UInt8)(k q:Nat)(c:Int)(hc:0<=c)(h:must l k c=.ok q):q=k+1/\k<l.length:=by
 unfold must at h;split at h
 ·rename_i hx;have:=bu (l:=l) (i:=k) (by omega)
  cases h
  omega
 ·cases h
theorem MM(l:List UInt8)(d d':Sd)(L:Li l d)(h:rdPair l d=.ok d'):Li l d'/\d.i<d'.i:=by
 obtain⟨i,ns,own,now⟩:=d;have L1:=L.jt;have L2:=L.rt;have L3:=L.le;have L4:=L.nn;have L5:=L.on;simp only[]at L1 L2 L3 L4 L5;rw[LK]at h
 cases hk:bW l i with
 | error e=>rw[hk]at h;cases h
 | ok q =>
  obtain⟨k,j⟩:=q;rw[hk]at h;simp only[]at h;obtain⟨k1,k2,k3⟩:=uZ l i k j L3 hk;have b1:=jA l j k2
  cases hm:must l (bl l j) 61 with
  | error e=>rw[hm]at h;cases h
  | ok j1 =>
   rw[hm]at h;simp only[]at h;obtain⟨m1,m2⟩:=wK l _ _ 61 (by decide) hm;have b2:=jA l j1 (by omega)
   cases hq:ah ns now k with
   | some q=>rw[hq]at h;cases h
   | none =>
    rw[hq]at h;simp only[]at h
    cases hv:val l (2*l.length+2) (bl l j1) now k i 0 ns with
    | error e=>rw[hv]at h;cases h
    | ok z =>
     obtain⟨j2,ns'⟩:=z;rw[hv]at h;have A:=(EY l own _).1 (bl l j1) now k i 0 ns j2 ns' b2.2 L1.wf L1.wt L1.lt (by rw[L1.kd];decide) hv;have a1:=A.lo;have a2:=A.hi;have a3:=A.fw;have a4:=A.en;have hlt:=L1.lt
     cases h
     exact⟨⟨⟨A.wf,A.wt,by simp only[];omega,(A.kd now L1.lt).trans L1.kd⟩,(A.kd 0 (by omega)).trans L2,a4,by simp only[];omega,by simp only[];omega⟩,by simp only[];omega⟩
theorem MO(l:List UInt8)(d d':Sd)(L:Li l d)(hi:d.i<l.length)(h:fQ l d=.ok d'):Li l d'/\d.i<d'.i:=by
 obtain⟨i,ns,own,now⟩:=d;have L1:=L.jt;have L2:=L.rt;have L3:=L.le;have L4:=L.nn;have L5:=L.on;simp only[]at L1 L2 L3 L4 L5 hi;obtain⟨many,sK⟩:=zN (decide (nx l (i+1)=91));rw[Cf l i ns own now many sK]at h;have ha:i+1<=(if many=true then i+2 else i+1)/\(if many=true then i+2 else i+1)<=l.length:=by
  cases many with
  | false=>simp;omega
  | true =>
   have hx:=of_decide_eq_true sK;have:=bu (l:=l) (i:=i+1) (by rw[hx];decide);simp;omega
 generalize (if many=true then i+2 else i+1)=a at h ha
 cases hk:fF l (l.length+1) a [] with
 | error e=>rw[hk]at h;cases h
 | ok q =>
  obtain⟨ks,j⟩:=q;rw[hk]at h;simp only[]at h;obtain⟨k1,k2,k3,k4⟩:=G6 l _ a [] ks j ha.2 (by simp) hk;simp at k2 k3
  cases hm:must l j 93 with
  | error e=>rw[hm]at h;cases h
  | ok j1 =>
   rw[hm]at h;simp only[]at h;obtain⟨m1,m2⟩:=wK l _ _ 93 (by decide) hm;have hj2:∀j2,(if many=true then must l j1 93 else(.ok j1:Rs Nat))=.ok j2->j1<=j2/\j2<=l.length:=fun j2 hh=>by
    split at hh
    ·obtain⟨n1,n2⟩:=wK l _ _ 93 (by decide) hh;omega
    ·cases hh
     omega
   cases hc:(if many=true then must l j1 93 else(.ok j1:Rs Nat)) with
   | error e=>rw[hc]at h;cases h
   | ok j2 =>
    rw[hc]at h;simp only[]at h;obtain⟨c1,c2⟩:=hj2 j2 hc
    cases hw:way many own ks 0 ns with
    | error e=>rw[hw]at h;cases h
    | ok z =>
     obtain⟨t,ns'⟩:=z;rw[hw]at h;have hlt:=L1.lt;have J0:Jt ns own 0:=⟨L1.wf,L1.wt,by omega,L2⟩;obtain⟨w1,w2,w3⟩:=PG many own ks 0 ns ns' t (by intro e;rw[e]at k2;simp at k2) J0 hw;have w4:=UN many own ks 0 ns ns' t J0 hw 0 (by omega)
     cases h
     exact⟨⟨w1,w4.trans L2,c2,by simp only[];omega,by simp only[List.length_cons];omega⟩,by simp only[];omega⟩
open Go.RowKit Go.Maps Go.WideMaps Go.Joins
theorem KyR.keepR{w w':World}{g R:Nat}{l:List (List UInt8 × Nat)}{s:ByteArray}{i T:Nat}(h:KyR w g l)(hr:Rd w R s i T)(hg:w.grownBy w' (some R)):KyR w' g l:=by
 obtain⟨cur,h1,h2⟩:=h;exact⟨cur,(hg.block g (aA h1) (by simp only[ne_eq,Option.some.injEq];exact aP h1 hr (by decide))).trans h1,h2⟩
theorem acm(B R T:Nat)(s:ByteArray)(E:Int->TypeId × Value)(own:List Nat)(now i:Nat)(ns:List Tn)(w:World)(h:Rd w R s i T)(htr:Tr w B T ns own now)(G:Gl w B E)(hR:B<=R)(hi:i<s.size)(hs:s.size<=100000)(J:Jt ns own now)(h0:aj ns 0=0)(hsz:ns.length+own.length+(s.size-i)<=700000) :
  Calls prog 105 #[.pointer (some ⟨R,0,none⟩)] w (lU B R T s E (fQ s.data.toList ⟨i,ns,own,now⟩) w):=by
 have hl:s.data.toList.length=s.size:=by simp
 have hB:B<=w.heap.size:=htr.base;have CN:Hd (∀k w,Rd w R s k T->k<=s.size->Calls prog 104 #[.pointer (some ⟨R,0,none⟩)] w fun e w'=>e=.returned (.int .i64 (nx s.data.toList k))/\w.grownBy w' none):=fun k w h1 h2=>l7 R s k T w h1 h2 (by omega)
 have CK:Hd (∀a w',Rd w' R s a T->w.grownBy w' (some R)->a<=s.size->Calls prog 148 #[.pointer (some ⟨R,0,none⟩)] w' (GR R s T E (fF s.data.toList (s.data.toList.length+1) a []) w')):=fun a w' h1 hg ha=>abG R s a T B E w' h1 ha hs (G.gb hg hR hB) hR (Nat.le_trans hB hg.size)
 have CT:Hd (∀k w',Rd w' R s k T->w.grownBy w' (some R)->k<=s.size->Calls prog 109 #[.pointer (some ⟨R,0,none⟩),.int .i64 93] w' fun e w''=>(∃v,e=.returned v/\Hd ((∀q,must s.data.toList k 93=.ok q->v=.nilIface/\Rd w'' R s q T)/\(∀c p,must s.data.toList k 93=.error (c,p)->∃F,v=.iface 130 (.pointer (some ⟨F,0,none⟩))/\aS w'' v E c p)))/\w'.grownBy w'' (some R)):=fun k w' h1 hg hk =>
  (IP R s k T 93 (E 2).1 (E 2).2 w' h1 hk (by omega) (by decide) (G.gb hg hR hB).es.te).mono fun e w'' ⟨a1,a2,a3⟩=>by
   unfold must
   by_cases hx:nx s.data.toList k=93
   ·rw[if_pos hx];exact⟨⟨_,(a1 hx).1,fun q hq=>(by cases hq;exact⟨rfl,(a1 hx).2⟩),fun c p hp=>(by cases hp)⟩,a3⟩
   ·rw[if_neg hx];obtain⟨⟨v,e1,F,rfl,hF⟩,-⟩:=a2 hx;exact⟨⟨_,e1,fun q hq=>(by cases hq),fun c p hp=>(by cases hp;exact⟨F,rfl,F,rfl,hF⟩)⟩,a3⟩
 have CE:Hd (∀(many:Bool) ks d g c j w',ks.length=d+1->d+1<=c->d<=s.size-i->(∀x∈ks,x.1.length<=1048576)->KyR w' g ks->Rd w' R s j T->w.grownBy w' (some R)->Calls prog 149 #[.pointer (some ⟨T,0,none⟩),.slice (some ⟨g,0,none⟩) ks.length c,.bool many] w' fun e w''=>∃u,e=.returned u/\Hd (lU B R T s E (wJ j own (way many own ks 0 ns)) w (.returned u) w'')):=fun many ks d g c j w' a1 a2 a3 a4 a5 a6 hg=>by
  rw[a1];exact(aap B T ns own now E ks many g c d w' (htr.keepR h hg) ⟨J.wf,J.wt,by have:=J.lt;omega,h0⟩ a1 a2 a5 (by omega) a4 (G.gb hg hR hB).es G.lo).mono fun e w'' hv=>aci (jM hg hR hB) a6 hv
 have jD:Hd (∀a ks j,a<=s.size->fF s.data.toList (s.data.toList.length+1) a []=.ok (ks,j)->(∀x∈ks,x.1.length<=1048576)/\0<ks.length/\ks.length+a<=j/\j<=s.size):=fun a ks j ha hh=>by
  obtain⟨b1,b2,b3,b4⟩:=G6 s.data.toList _ a [] ks j (by omega) (by simp) hh;refine⟨fun x hx=>by have:=b1 x hx;omega,by simpa using b2,by simpa using b3,by omega⟩
 have oI:Hd (∀k q,must s.data.toList k 93=.ok q->q=k+1/\k<s.size):=fun k q a=>by
  unfold must at a;split at a
  ·rename_i hx;have:=bu (l:=s.data.toList) (i:=k) (by rw[hx];decide)
   cases a
   omega
  ·cases a
 have ER:Hd (nx s.data.toList (i+1)=91->i+1<s.size):=fun hx=>by
  have:=bu (l:=s.data.toList) (i:=i+1) (by rw[hx];decide);omega
 obtain⟨many,sK⟩:=zN (decide (nx s.data.toList (i+1)=91));have lV:=Cf s.data.toList i ns own now many sK;obtain⟨S,hS⟩:=zN (fQ s.data.toList ⟨i,ns,own,now⟩);rw[hS]at lV ⊢;have HP:Hd (S=_):=lV;obtain⟨-,r1,-,rf⟩:=h.cells;have rf1:=rf 1;have HR1:Hd (Rd (w.setCell ⟨R,1,none⟩ (.int .i64 ((i:Int)+1))) R s (i+1) T):=h.set (i+1);have ay:Hd (w.grownBy (w.setCell ⟨R,1,none⟩ (.int .i64 ((i:Int)+1))) (some R)):=iq w R 1 _;have C1:Hd (Calls prog 104 #[.pointer (some ⟨R,0,none⟩)] (w.setCell ⟨R,1,none⟩ (.int .i64 ((i:Int)+1))) fun e w'=>e=.returned (.int .i64 (nx s.data.toList (i+1)))/\(w.setCell ⟨R,1,none⟩ (.int .i64 ((i:Int)+1))).grownBy w' none):=CN.o (i+1) _ HR1.o (by omega);obtain⟨x,hx⟩:=zN (nx s.data.toList (i+1));rw[hx]at C1 sK ER;have zn:Hd (decide (x=91)=many):=sK;clear lV hS hx sK h htr G J rf;go_enter func105,ntmps105
 go_wp2_with (go_at_call 104;refine C1.o.mono ?_);rintro e w1 ⟨rfl,hg1⟩;have MP:Hd (Rd w1 R s (i+1) T):=HR1.o.grow hg1;have zk:Hd (w.grownBy w1 (some R)):=aF ay.o hg1;clear hg1 r1 rf1
 cases many with
 | false =>
  have c91:¬x=91:=of_decide_eq_false zn.o;have e91:(x == 91)=false:=by simp[c91]
  clear c91;have Cj:Hd (∀w',Rd w' R s (i+1) T->w.grownBy w' (some R)->Calls prog 148 #[.pointer (some ⟨R,0,none⟩)] w' (GR R s T E (fF s.data.toList (s.data.toList.length+1) (i+1) []) w')):=fun w' a b=>CK.o (i+1) w' a b (by omega)
  have xY:=jD.o (i+1);have lQ:=HP.o;simp only[Bool.false_eq_true,if_false]at lQ;obtain⟨KR,kz⟩:=zN (fF s.data.toList (s.data.toList.length+1) (i+1) []);rw[kz]at Cj xY lQ;have Cm:Hd (∀ks j,(i+1)<=s.size->KR=.ok (ks,j)->(∀x∈ks,x.1.length<=1048576)/\0<ks.length/\ks.length+(i+1)<=j/\j<=s.size):=xY;have xZ:Hd (S=_):=lQ;clear xY lQ kz HP CK jD;go_wp2_with (go_at_call 148;refine(Cj.o _ MP.o zk.o).mono ?_);rintro e w2 ⟨p1,p2,p3⟩;have HG2:Hd (w.grownBy w2 (some R)):=dH zk.o p3
  cases KR with
  | error ec =>
   obtain⟨ec1,ec2⟩:=ec;obtain⟨F,rfl,hF⟩:=p2 ec1 ec2 rfl;have dS:Hd (aS w2 (.iface 130 (.pointer (some ⟨F,0,none⟩))) E ec1 ec2):=hF;have az:Hd (S=.error (ec1,ec2)):=xZ.o;clear p1 p2 p3 hF;go_wp2;refine bodyPost_ret (results_tmp (t:=2) rfl _ _ _) rfl ?_;rw[az.o];exact⟨fun d hh=>(by cases hh),fun c p hh=>(by cases hh;exact⟨F,rfl,dS.o⟩),jM HG2.o hR hB⟩
  | ok q =>
   obtain⟨ks,j⟩:=q;obtain⟨g,c,rfl,hky,hkc,hr2⟩:=p1 ks j rfl;obtain⟨k1,k2,k3,k4⟩:=Cm.o ks j (by omega) rfl;have iL:Hd (KyR w2 g ks):=hky;have HR2:Hd (Rd w2 R s j T):=hr2;have y9:Hd (∀x∈ks,x.1.length<=1048576):=k1;have HP2:=xZ.o
   try simp only[]at HP2
   have qR:=CT.o j;have lT:=oI.o j;obtain⟨MU,lu⟩:=zN (must s.data.toList j 93);rw[lu]at qR lT HP2;have CO:Hd (∀w',Rd w' R s j T->w.grownBy w' (some R)->j<=s.size->Calls prog 109 #[.pointer (some ⟨R,0,none⟩),.int .i64 93] w' fun e w''=>(∃v,e=.returned v/\Hd ((∀q,MU=.ok q->v=.nilIface/\Rd w'' R s q T)/\(∀c p,MU=.error (c,p)->∃F,v=.iface 130 (.pointer (some ⟨F,0,none⟩))/\aS w'' v E c p)))/\w'.grownBy w'' (some R)):=qR;have Df:Hd (∀q,MU=.ok q->q=j+1/\j<s.size):=lT;have qU:Hd (S=_):=HP2;clear p1 p2 p3 hky hr2 k1 qR lT HP2 lu xZ Cm;go_wp2_with (go_at_call 109;refine(CO.o _ HR2.o HG2.o k4).mono ?_);rintro e w3 ⟨⟨v,rfl,hv⟩,hg3⟩;have aO:Hd (w.grownBy w3 (some R)):=dH HG2.o hg3;have jE:Hd (KyR w3 g ks):=iL.o.keepR HR2.o hg3;clear hg3
   cases MU with
   | error ec =>
    obtain⟨ec1,ec2⟩:=ec;obtain⟨F,rfl,hF⟩:=hv.o.2 ec1 ec2 rfl;have dS:Hd (aS w3 (.iface 130 (.pointer (some ⟨F,0,none⟩))) E ec1 ec2):=hF;have az:Hd (S=.error (ec1,ec2)):=qU.o;clear hv hF;go_wp2;refine bodyPost_ret (results_tmp (t:=2) rfl _ _ _) rfl ?_;rw[az.o];exact⟨fun d hh=>(by cases hh),fun c p hh=>(by cases hh;exact⟨F,rfl,dS.o⟩),jM aO.o hR hB⟩
   | ok j1 =>
    obtain⟨rfl,hr3⟩:=hv.o.1 j1 rfl;obtain⟨m1,m2⟩:=Df.o j1 rfl;have HR3:Hd (Rd w3 R s j1 T):=hr3;have sN:=qU.o
    try simp only[]at sN
    clear hv hr3 qU Df CO;have ut:S=wJ j1 own (way false own ks 0 ns):=sN;clear sN;obtain⟨d,hd⟩:∃d,ks.length=d+1:=⟨ks.length-1,by omega⟩;have rP:Hd (Calls prog 149 #[.pointer (some ⟨T,0,none⟩),.slice (some ⟨g,0,none⟩) ks.length c,.bool false] w3 fun e w''=>∃u,e=.returned u/\Hd (lU B R T s E S w (.returned u) w'')):=by
     rw[ut];exact CE.o false ks d g c j1 w3 hd (by omega) (by omega) y9.o jE.o HR3.o aO.o
    obtain⟨-,-,rr,-⟩:=HR3.o.cells;clear ut CE hd;go_wp2_with (go_at_call 149;refine rP.o.mono ?_;rintro e w9 ⟨u,rfl,hu⟩);refine bodyPost_ret (results_tmp (t:=2) rfl _ _ _) rfl ?_;exact hu.o
 | true =>
  have c91:x=91:=of_decide_eq_true zn.o;have e91:(x == 91)=true:=by simp[c91]
  have hx1:=ER.o c91;obtain⟨-,s1,-,sf⟩:=MP.o.cells;have sf1:=sf 1;have e2:((i+1:Nat):Int)+1=((i+2:Nat):Int):=by omega
  have HRb:Hd (Rd (w1.setCell ⟨R,1,none⟩ (.int .i64 (((i+1:Nat):Int)+1))) R s (i+2) T):=MP.o.set (i+2);have UO:Hd (w.grownBy (w1.setCell ⟨R,1,none⟩ (.int .i64 (((i+1:Nat):Int)+1))) (some R)):=aV zk.o 1 _;clear c91 sf e2;have Cj:Hd (∀w',Rd w' R s (i+2) T->w.grownBy w' (some R)->Calls prog 148 #[.pointer (some ⟨R,0,none⟩)] w' (GR R s T E (fF s.data.toList (s.data.toList.length+1) (i+2) []) w')):=fun w' a b=>CK.o (i+2) w' a b (by omega)
  have xY:=jD.o (i+2);have lQ:=HP.o;simp only[if_true]at lQ;obtain⟨KR,kz⟩:=zN (fF s.data.toList (s.data.toList.length+1) (i+2) []);rw[kz]at Cj xY lQ;have Cm:Hd (∀ks j,(i+2)<=s.size->KR=.ok (ks,j)->(∀x∈ks,x.1.length<=1048576)/\0<ks.length/\ks.length+(i+2)<=j/\j<=s.size):=xY;have xZ:Hd (S=_):=lQ;clear xY lQ kz HP CK jD;go_wp2_with (go_at_call 148;refine(Cj.o _ HRb.o UO.o).mono ?_);rintro e w2 ⟨p1,p2,p3⟩;have HG2:Hd (w.grownBy w2 (some R)):=dH UO.o p3
  cases KR with
  | error ec =>
   obtain⟨ec1,ec2⟩:=ec;obtain⟨F,rfl,hF⟩:=p2 ec1 ec2 rfl;have dS:Hd (aS w2 (.iface 130 (.pointer (some ⟨F,0,none⟩))) E ec1 ec2):=hF;have az:Hd (S=.error (ec1,ec2)):=xZ.o;clear p1 p2 p3 hF;go_wp2;refine bodyPost_ret (results_tmp (t:=2) rfl _ _ _) rfl ?_;rw[az.o];exact⟨fun d hh=>(by cases hh),fun c p hh=>(by cases hh;exact⟨F,rfl,dS.o⟩),jM HG2.o hR hB⟩
  | ok q =>
   obtain⟨ks,j⟩:=q;obtain⟨g,c,rfl,hky,hkc,hr2⟩:=p1 ks j rfl;obtain⟨k1,k2,k3,k4⟩:=Cm.o ks j (by omega) rfl;have iL:Hd (KyR w2 g ks):=hky;have HR2:Hd (Rd w2 R s j T):=hr2;have y9:Hd (∀x∈ks,x.1.length<=1048576):=k1;have HP2:=xZ.o
   try simp only[]at HP2
   have qR:=CT.o j;have lT:=oI.o j;obtain⟨MU,lu⟩:=zN (must s.data.toList j 93);rw[lu]at qR lT HP2;have CO:Hd (∀w',Rd w' R s j T->w.grownBy w' (some R)->j<=s.size->Calls prog 109 #[.pointer (some ⟨R,0,none⟩),.int .i64 93] w' fun e w''=>(∃v,e=.returned v/\Hd ((∀q,MU=.ok q->v=.nilIface/\Rd w'' R s q T)/\(∀c p,MU=.error (c,p)->∃F,v=.iface 130 (.pointer (some ⟨F,0,none⟩))/\aS w'' v E c p)))/\w'.grownBy w'' (some R)):=qR;have Df:Hd (∀q,MU=.ok q->q=j+1/\j<s.size):=lT;have qU:Hd (S=_):=HP2;clear p1 p2 p3 hky hr2 k1 qR lT HP2 lu xZ Cm;go_wp2_with (go_at_call 109;refine(CO.o _ HR2.o HG2.o k4).mono ?_);rintro e w3 ⟨⟨v,rfl,hv⟩,hg3⟩;have aO:Hd (w.grownBy w3 (some R)):=dH HG2.o hg3;have jE:Hd (KyR w3 g ks):=iL.o.keepR HR2.o hg3;clear hg3
   cases MU with
   | error ec =>
    obtain⟨ec1,ec2⟩:=ec;obtain⟨F,rfl,hF⟩:=hv.o.2 ec1 ec2 rfl;have dS:Hd (aS w3 (.iface 130 (.pointer (some ⟨F,0,none⟩))) E ec1 ec2):=hF;have az:Hd (S=.error (ec1,ec2)):=qU.o;clear hv hF;go_wp2;refine bodyPost_ret (results_tmp (t:=2) rfl _ _ _) rfl ?_;rw[az.o];exact⟨fun d hh=>(by cases hh),fun c p hh=>(by cases hh;exact⟨F,rfl,dS.o⟩),jM aO.o hR hB⟩
   | ok j1 =>
    obtain⟨rfl,hr3⟩:=hv.o.1 j1 rfl;obtain⟨m1,m2⟩:=Df.o j1 rfl;have HR3:Hd (Rd w3 R s j1 T):=hr3;have sN:=qU.o
    try simp only[]at sN
    clear hv hr3 qU Df CO;have uq:=CT.o j1;have lW:=oI.o j1;obtain⟨MV,UQ⟩:=zN (must s.data.toList j1 93);rw[UQ]at uq lW sN;have GM:Hd (∀w',Rd w' R s j1 T->w.grownBy w' (some R)->j1<=s.size->Calls prog 109 #[.pointer (some ⟨R,0,none⟩),.int .i64 93] w' fun e w''=>(∃v,e=.returned v/\Hd ((∀q,MV=.ok q->v=.nilIface/\Rd w'' R s q T)/\(∀c p,MV=.error (c,p)->∃F,v=.iface 130 (.pointer (some ⟨F,0,none⟩))/\aS w'' v E c p)))/\w'.grownBy w'' (some R)):=uq;have MQ:Hd (S=_):=sN;clear uq lW sN UQ CT;go_wp2_with (go_at_call 109;refine(GM.o _ HR3.o aO.o (by omega)).mono ?_);rintro e w4 ⟨⟨v,rfl,hv⟩,hg4⟩;have dQ:Hd (w.grownBy w4 (some R)):=dH aO.o hg4;have mW:Hd (KyR w4 g ks):=jE.o.keepR HR3.o hg4;clear hg4
    cases MV with
    | error ec =>
     obtain⟨ec1,ec2⟩:=ec;obtain⟨F,rfl,hF⟩:=hv.o.2 ec1 ec2 rfl;have dS:Hd (aS w4 (.iface 130 (.pointer (some ⟨F,0,none⟩))) E ec1 ec2):=hF;have az:Hd (S=.error (ec1,ec2)):=MQ.o;clear hv hF;go_wp2;refine bodyPost_ret (results_tmp (t:=2) rfl _ _ _) rfl ?_;rw[az.o];exact⟨fun d hh=>(by cases hh),fun c p hh=>(by cases hh;exact⟨F,rfl,dS.o⟩),jM dQ.o hR hB⟩
    | ok j2 =>
     obtain⟨rfl,hr4⟩:=hv.o.1 j2 rfl;have HR4:Hd (Rd w4 R s j2 T):=hr4;have ut:S=wJ j2 own (way true own ks 0 ns):=MQ.o;clear hv hr4 MQ GM;obtain⟨d,hd⟩:∃d,ks.length=d+1:=⟨ks.length-1,by omega⟩;have rP:Hd (Calls prog 149 #[.pointer (some ⟨T,0,none⟩),.slice (some ⟨g,0,none⟩) ks.length c,.bool true] w4 fun e w''=>∃u,e=.returned u/\Hd (lU B R T s E S w (.returned u) w'')):=by
      rw[ut];exact CE.o true ks d g c j2 w4 hd (by omega) (by omega) y9.o mW.o HR4.o dQ.o
     obtain⟨-,-,rr,-⟩:=HR4.o.cells;clear ut CE hd;go_wp2_with (go_at_call 149;refine rP.o.mono ?_;rintro e w9 ⟨u,rfl,hu⟩);refine bodyPost_ret (results_tmp (t:=2) rfl _ _ _) rfl ?_;exact hu.o
open Go.RowKit Go.Maps Go.WideMaps Go.Joins
def qX(l:List UInt8)(d:Sd)(c:Bool × Nat):Rs Sd :=
 if c.1=false then .error (2,c.2)
 else if nx l c.2=-1 then .ok ⟨c.2,d.ns,d.own,d.now⟩
 else match must l c.2 10 with
  | .error e=>.error e
  | .ok j=>.ok ⟨j,d.ns,d.own,d.now⟩
def MR(l:List UInt8):Rs Sd->Rs Sd
 | .error e=>.error e
 | .ok d=>qX l d (bi l (bl l d.i))
theorem MS(l:List UInt8)(i:Nat)(ns:List Tn)(own:List Nat)(now:Nat):iF l ⟨i,ns,own,now⟩=MR l (if nx l (bl l i)=91 then fQ l ⟨bl l i,ns,own,now⟩ else if nx l (bl l i)=34\/aN (nx l (bl l i))=true then rdPair l ⟨bl l i,ns,own,now⟩ else .ok ⟨bl l i,ns,own,now⟩):=by
 unfold iF;simp only[]
 cases (if nx l (bl l i)=91 then fQ l ⟨bl l i,ns,own,now⟩ else if nx l (bl l i)=34\/aN (nx l (bl l i))=true then rdPair l ⟨bl l i,ns,own,now⟩ else .ok ⟨bl l i,ns,own,now⟩) with
 | error e=>rfl
 | ok d=>rfl
theorem acn(B R T:Nat)(s:ByteArray)(E:Int->TypeId × Value)(own:List Nat)(now i:Nat)(ns:List Tn)(w:World)(h:Rd w R s i T)(htr:Tr w B T ns own now)(G:Gl w B E)(hR:B<=R)(hs:s.size<=100000)(L:Li s.data.toList ⟨i,ns,own,now⟩) :
  Calls prog 72 #[.pointer (some ⟨R,0,none⟩)] w (lU B R T s E (iF s.data.toList ⟨i,ns,own,now⟩) w):=by
 have hl:s.data.toList.length=s.size:=by simp
 have hB:B<=w.heap.size:=htr.base;have hi:i<=s.size:=by have:=L.le;simp only[]at this;omega
 have CN:Hd (∀k w,Rd w R s k T->k<=s.size->Calls prog 104 #[.pointer (some ⟨R,0,none⟩)] w fun e w'=>e=.returned (.int .i64 (nx s.data.toList k))/\w.grownBy w' none):=fun k w h1 h2=>l7 R s k T w h1 h2 (by omega)
 have CB:Hd (∀c w,Calls prog 106 #[.int .i64 c] w fun e w'=>e=.returned (.bool (aN c))/\w'=w):=Pg;have CS:Hd (∀k w,Rd w R s k T->k<=s.size->Calls prog 103 #[.pointer (some ⟨R,0,none⟩)] w fun e w'=>e=.returned (.tuple #[])/\Rd w' R s (bl s.data.toList k) T/\w.grownBy w' (some R)):=fun k w h1 h2=>Eu R s k T w h1 h2 (by omega)
 have CC:Hd (∀k w',Rd w' R s k T->Below B w w'->k<=s.size->Calls prog 108 #[.pointer (some ⟨R,0,none⟩)] w' (zX R s T (E 2).1 (E 2).2 (bi s.data.toList k) w')):=fun k w' h1 hb hk=>Ph R s k T (E 2).1 (E 2).2 w' h1 hk (by omega) (G.bel hb).es.te (zg G.lo hR).te
 have CT:Hd (∀k ns own now w',Rd w' R s k T->Tr w' B T ns own now->Below B w w'->k<=s.size->Calls prog 109 #[.pointer (some ⟨R,0,none⟩),.int .i64 10] w' (zi B R T s E own now ns (must s.data.toList k 10) w')):=fun k ns own now w' h1 h2 hb hk=>TU B R T s E own now k 10 (by decide) ns w' h1 h2 (G.bel hb) hR hk hs
 have fP:Hd (∀k,k<=s.size->k<=bl s.data.toList k/\bl s.data.toList k<=s.size):=fun k hk=>by rw[<-hl];exact jA _ k (by omega)
 have HCM:Hd (∀k,k<=s.size->k<=(bi s.data.toList k).2/\(bi s.data.toList k).2<=s.size):=fun k hk=>by rw[<-hl];exact Aa _ k (by omega)
 obtain⟨b1,b2⟩:=fP.o i hi;have C1:=CS.o i w h hi;have lV:=MS s.data.toList i ns own now;obtain⟨j,hj⟩:=zN (bl s.data.toList i);rw[hj]at C1 b1 b2 lV;have L':Li s.data.toList ⟨j,ns,own,now⟩:=⟨L.jt,L.rt,by simp only[];omega,by have:=L.nn;simp only[]at this ⊢;omega,by have:=L.on;simp only[]at this ⊢;omega⟩;have wL:Hd (nx s.data.toList j=91->∀w',Rd w' R s j T->Tr w' B T ns own now->Below B w w'->Calls prog 105 #[.pointer (some ⟨R,0,none⟩)] w' (lU B R T s E (fQ s.data.toList ⟨j,ns,own,now⟩) w')):=fun hx w' h1 h2 hb=>acm B R T s E own now j ns w' h1 h2 (G.bel hb) hR (by have:=bu (l:=s.data.toList) (i:=j) (by rw[hx];decide);omega) hs L'.jt L'.rt (by have:=L'.nn;have:=L'.on;simp only[]at *;omega)
 have G7:Hd (∀w',Rd w' R s j T->Tr w' B T ns own now->Below B w w'->Calls prog 107 #[.pointer (some ⟨R,0,none⟩)] w' (lU B R T s E (rdPair s.data.toList ⟨j,ns,own,now⟩) w')):=fun w' h1 h2 hb=>aby B R T s E own now j ns w' h1 h2 (G.bel hb) hR b2 hs L'.jt (by have:=L'.nn;have:=L'.on;simp only[]at *;omega)
 have zy:Hd (nx s.data.toList j=91->∀d,fQ s.data.toList ⟨j,ns,own,now⟩=.ok d->d.i<=s.size):=fun hx d hd=>by
  have:=(MO s.data.toList _ d L' (bu (l:=s.data.toList) (i:=j) (by rw[hx];decide)) hd).1.le;omega
 have kU:Hd (∀d,rdPair s.data.toList ⟨j,ns,own,now⟩=.ok d->d.i<=s.size):=fun d hd=>by
  have:=(MM s.data.toList _ d L' hd).1.le;omega
 obtain⟨S,hS⟩:=zN (iF s.data.toList ⟨i,ns,own,now⟩);rw[hS]at lV ⊢;obtain⟨HD,UR⟩:=zN (fQ s.data.toList ⟨j,ns,own,now⟩);obtain⟨PR,oH⟩:=zN (rdPair s.data.toList ⟨j,ns,own,now⟩);rw[UR]at lV wL zy;rw[oH]at lV G7 kU;obtain⟨x,hx⟩:=zN (nx s.data.toList j);rw[hx]at lV wL zy;have HP:Hd (S=_):=lV;have xQ:Hd (Calls prog 103 #[.pointer (some ⟨R,0,none⟩)] w fun e w'=>e=.returned (.tuple #[])/\Rd w' R s j T/\w.grownBy w' (some R)):=C1;have C2:Hd (∀w',Rd w' R s j T->Calls prog 104 #[.pointer (some ⟨R,0,none⟩)] w' fun e w''=>e=.returned (.int .i64 x)/\w'.grownBy w'' none):=fun w' hh=>by rw[<-hx];exact CN.o j w' hh b2
 have mJ:Hd (Tr w B T ns own now):=htr;have H0:Hd (Rd w R s i T):=h;clear lV hS UR oH hx hj C1 h htr G L L';go_enter func72,ntmps72;go_wp2_with (go_at_call 103;refine xQ.o.mono ?_);rintro e w1 ⟨rfl,hr1,hg1⟩;have HR1:Hd (Rd w1 R s j T):=hr1;have HB1:Hd (Below B w w1):=jM hg1 hR hB;have HT1:Hd (Tr w1 B T ns own now):=mJ.o.keepR H0.o hg1;clear hr1 hg1;go_wp2_with (go_at_call 104;refine(C2.o _ HR1.o).mono ?_);rintro e w2 ⟨rfl,hg2⟩;have HR2:Hd (Rd w2 R s j T):=HR1.o.grow hg2;have HB2:Hd (Below B w w2):=HB1.o.trans (mQ hg2 HT1.o.base);have HT2:Hd (Tr w2 B T ns own now):=HT1.o.gb hg2;clear hg2;have hcs:x=91\/(¬x=91/\x=34)\/(¬x=91/\¬x=34/\aN x=true)\/(¬x=91/\¬x=34/\aN x=false):=by
  by_cases a:x=91
  ·exact .inl a
  ·by_cases b:x=34
   ·exact .inr (.inl ⟨a,b⟩)
   ·cases c:aN x with
    | true=>exact .inr (.inr (.inl ⟨a,b,rfl⟩))
    | false=>exact .inr (.inr (.inr ⟨a,b,rfl⟩))
 rcases hcs with q1|⟨n91,q2⟩|⟨n91,n34,q3⟩|⟨n91,n34,q4⟩
 all_goals (
  have qY:=HP.o
  first
   | (first
     | (have e91:(x == 91)=true:=by simp[q1]
        have C3:=wL.o q1;have AY:Hd (∀d,HD=.ok d->d.i<=s.size):=zy.o q1;rw[if_pos q1]at qY;have G8:Hd (S=MR s.data.toList HD):=qY;have LM:Hd (∀w',Rd w' R s j T->Tr w' B T ns own now->Below B w w'->Calls prog 105 #[.pointer (some ⟨R,0,none⟩)] w' (lU B R T s E HD w')):=C3;clear q1 C3 qY HP wL zy G7 kU CB;go_wp2_with (go_at_call 105;refine(LM.o _ HR2.o HT2.o HB2.o).mono ?_);rintro e w3 ⟨p1,p2,p3⟩;obtain⟨X,rfl⟩:∃X,X=HD:=⟨_,rfl⟩)
     | (have e91:(x == 91)=false:=by simp[n91]
        rw[if_neg n91]at qY
        first
         | (have e34:(x == 34)=true:=by simp[q2]
            rw[if_pos (Or.inl q2)]at qY;clear q2 n91 CB)
         | (have e34:(x == 34)=false:=by simp[n34]
            have iU:Hd (∀w,Calls prog 106 #[.int .i64 x] w fun e w'=>e=.returned (.bool true)/\w'=w):=fun w=>by have:=CB.o x w;rw[q3]at this;exact this
            rw[if_pos (Or.inr q3)]at qY;clear q3 n91 n34 CB)
        have G8:Hd (S=MR s.data.toList PR):=qY;have AY:Hd (∀d,PR=.ok d->d.i<=s.size):=kU.o;clear qY HP wL zy kU
        try
         go_wp2_with (go_at_call 106;refine(iU.o _).mono ?_);rintro e w' ⟨rfl,rfl⟩
        go_wp2_with (go_at_call 107;refine(G7.o _ HR2.o HT2.o HB2.o).mono ?_);rintro e w3 ⟨p1,p2,p3⟩;obtain⟨X,rfl⟩:∃X,X=PR:=⟨_,rfl⟩)
      have MW:Hd (Below B w w3):=HB2.o.trans p3
      rcases X with⟨ec1,ec2⟩|d
      ·obtain⟨F,rfl,hF⟩:=p2 ec1 ec2 rfl;have dS:Hd (aS w3 (.iface 130 (.pointer (some ⟨F,0,none⟩))) E ec1 ec2):=hF;have az:Hd (S=.error (ec1,ec2)):=G8.o;clear p1 p2 p3 hF;go_wp2;refine bodyPost_ret (results_tmp (t:=2) rfl _ _ _) rfl ?_;rw[az.o];exact⟨fun d hh=>(by cases hh),fun c p hh=>(by cases hh;exact⟨F,rfl,dS.o⟩),MW.o⟩
      obtain⟨rfl,hr3,ht3⟩:=p1 d rfl;have hdl:=AY.o d rfl;have MX:Hd (Rd w3 R s d.i T):=hr3;have MZ:Hd (Tr w3 B T d.ns d.own d.now):=ht3;have Na:Hd (S=qX s.data.toList d (bi s.data.toList (bl s.data.toList d.i))):=G8.o;clear p1 p2 p3 hr3 ht3 G8 AY)
   | (have e91:(x == 91)=false:=by simp[n91]
      have e34:(x == 34)=false:=by simp[n34]
      have iU:Hd (∀w,Calls prog 106 #[.int .i64 x] w fun e w'=>e=.returned (.bool false)/\w'=w):=fun w=>by have:=CB.o x w;rw[q4]at this;exact this
      rw[if_neg n91,if_neg (by rintro(h|h);exact n34 h;rw[q4]at h;cases h)]at qY;have vY:Hd (S=qX s.data.toList ⟨j,ns,own,now⟩ (bi s.data.toList (bl s.data.toList j))):=qY;clear q4 n91 n34 CB qY HP wL zy G7 kU;go_wp2_with (go_at_call 106;refine(iU.o _).mono ?_);rintro e w3 ⟨rfl,rfl⟩;obtain⟨d,hd⟩:∃d:Sd,d=⟨j,ns,own,now⟩:=⟨_,rfl⟩;have MX:Hd (Rd w3 R s d.i T):=by rw[hd];exact HR2.o
      have MZ:Hd (Tr w3 B T d.ns d.own d.now):=by rw[hd];exact HT2.o
      have hdl:d.i<=s.size:=by rw[hd];exact b2
      have Na:Hd (S=qX s.data.toList d (bi s.data.toList (bl s.data.toList d.i))):=by rw[hd];exact vY.o
      have MW:Hd (Below B w w3):=HB2.o;clear hd vY)
  obtain⟨g1,g2⟩:=fP.o d.i hdl;have C5:=CS.o d.i w3 MX.o hdl;have yX:=Na.o;obtain⟨j5,UT⟩:=zN (bl s.data.toList d.i);rw[UT]at C5 g1 g2 yX;have LC:Hd (Calls prog 103 #[.pointer (some ⟨R,0,none⟩)] w3 fun e wz=>e=.returned (.tuple #[])/\Rd wz R s j5 T/\w3.grownBy wz (some R)):=C5;obtain⟨f1,f2⟩:=HCM.o j5 g2;have Nb:=CC.o j5;obtain⟨cm,hcm⟩:=zN (bi s.data.toList j5);rw[hcm]at Nb yX f1 f2;obtain⟨okb,j6⟩:=cm;simp only[]at f1 f2;have aco:Hd (∀w',Rd w' R s j5 T->Below B w w'->Calls prog 108 #[.pointer (some ⟨R,0,none⟩)] w' (zX R s T (E 2).1 (E 2).2 (okb,j6) w')):=fun w' a b=>Nb w' a b g2
  have Nc:Hd (S=qX s.data.toList d (okb,j6)):=yX;clear C5 Nb yX UT hcm Na;go_wp2_with (go_at_call 103;refine LC.o.mono ?_);rintro e w5 ⟨rfl,pz,hg5⟩;have ou:Hd (Rd w5 R s j5 T):=pz;have rQ:Hd (Below B w w5):=MW.o.trans (jM hg5 hR MZ.o.base);have UU:Hd (Tr w5 B T d.ns d.own d.now):=MZ.o.keepR MX.o hg5;clear pz hg5;go_wp2_with (go_at_call 108;refine(aco.o _ ou.o rQ.o).mono ?_);rintro e w6 ⟨q1,q2,q3,q4⟩;have nD:Hd (Rd w6 R s j6 T):=q3;have Ff:Hd (Below B w w6):=rQ.o.trans (jM q4 hR UU.o.base);have uA:Hd (Tr w6 B T d.ns d.own d.now):=UU.o.keepR ou.o q4;clear q3 q4
  cases okb with
  | false =>
   obtain⟨v,rfl,F,rfl,hF⟩:=q2 rfl;have dS:Hd (aS w6 (.iface 130 (.pointer (some ⟨F,0,none⟩))) E 2 j6):=⟨F,rfl,hF⟩;have az:Hd (S=.error (2,j6)):=by
    have:=Nc.o;unfold qX at this;rw[if_pos rfl]at this;exact this
   clear q1 q2 hF;go_wp2;refine bodyPost_ret (results_tmp (t:=2) rfl _ _ _) rfl ?_;rw[az.o];exact⟨fun d hh=>(by cases hh),fun c p hh=>(by cases hh;exact⟨F,rfl,dS.o⟩),Ff.o⟩
  | true =>
   obtain rfl:=q1 rfl;have C7:Hd (Calls prog 104 #[.pointer (some ⟨R,0,none⟩)] w6 fun e w'=>e=.returned (.int .i64 (nx s.data.toList j6))/\w6.grownBy w' none):=CN.o j6 w6 nD.o f2;have sO:=Nc.o;unfold qX at sO;rw[if_neg (by simp)]at sO;simp only[]at sO;have Nh:=CT.o j6 d.ns d.own d.now;obtain⟨MU,lu⟩:=zN (must s.data.toList j6 10);rw[lu]at sO Nh;obtain⟨y,hy⟩:=zN (nx s.data.toList j6);rw[hy]at sO C7;have UV:Hd (S=_):=sO;have acp:Hd (∀w',Rd w' R s j6 T->Tr w' B T d.ns d.own d.now->Below B w w'->j6<=s.size->Calls prog 109 #[.pointer (some ⟨R,0,none⟩),.int .i64 10] w' (zi B R T s E d.own d.now d.ns MU w')):=Nh;clear q1 q2 sO Nh lu hy Nc;go_wp2_with (go_at_call 104;refine C7.o.mono ?_);rintro e w7 ⟨rfl,kX⟩;have vJ:Hd (Rd w7 R s j6 T):=nD.o.grow kX;have qI:Hd (Below B w w7):=Ff.o.trans (mQ kX uA.o.base)
   have UW:Hd (Tr w7 B T d.ns d.own d.now):=uA.o.gb kX;clear kX
   by_cases cy:y=-1
   ·have ey:(y == -1)=true:=by simp[cy]
    have az:Hd (S=.ok ⟨j6,d.ns,d.own,d.now⟩):=by
     have:=UV.o;rw[if_pos cy]at this;exact this
    clear cy;go_wp2;refine bodyPost_ret (results_tmp (t:=2) rfl _ _ _) rfl ?_;rw[az.o];exact⟨fun d hh=>(by cases hh;exact⟨rfl,vJ.o,UW.o⟩),fun c p hh=>(by cases hh),qI.o⟩
   ·have ey:(y == -1)=false:=by simp[cy]
    have az:Hd (S=match (generalizing:=false) MU with | .error e=>.error e | .ok j=>.ok ⟨j,d.ns,d.own,d.now⟩):=by
     have:=UV.o;rw[if_neg cy]at this;exact this
    clear cy;go_wp2_with (go_at_call 109;refine(acp.o _ vJ.o UW.o qI.o f2).mono ?_);rintro e w8 ⟨t1,t2,t3⟩
    cases MU with
    | error ec =>
     obtain⟨ec1,ec2⟩:=ec;obtain⟨F,rfl,hF⟩:=t2 ec1 ec2 rfl;have dS:Hd (aS w8 (.iface 130 (.pointer (some ⟨F,0,none⟩))) E ec1 ec2):=hF;have A7:Hd (Below B w w8):=qI.o.trans t3;have Dh:Hd (S=.error (ec1,ec2)):=az.o;clear t1 t2 t3 hF;go_wp2;refine bodyPost_ret (results_tmp (t:=2) rfl _ _ _) rfl ?_;rw[Dh.o];exact⟨fun d hh=>(by cases hh),fun c p hh=>(by cases hh;exact⟨F,rfl,dS.o⟩),A7.o⟩
    | ok j8 =>
     obtain⟨rfl,y7,UX⟩:=t1 j8 rfl;have uf:Hd (Rd w8 R s j8 T):=y7;have HT8:Hd (Tr w8 B T d.ns d.own d.now):=UX;have A7:Hd (Below B w w8):=qI.o.trans t3;have Dh:Hd (S=.ok ⟨j8,d.ns,d.own,d.now⟩):=az.o;clear t1 t2 t3 y7 UX;go_wp2;refine bodyPost_ret (results_tmp (t:=2) rfl _ _ _) rfl ?_;rw[Dh.o];exact⟨fun d hh=>(by cases hh;exact⟨rfl,uf.o,HT8.o⟩),fun c p hh=>(by cases hh),A7.o⟩)
open Go.RowKit Go.Joins
theorem Di{l:List UInt8}{d:Sd}(L:Li l d)(j:Nat)(h1:d.i<=j)(h2:j<=l.length):Li l ⟨j,d.ns,d.own,d.now⟩ :=
 ⟨L.jt,L.rt,h2,by have:=L.nn;simp only[];omega,by have:=L.on;simp only[];omega⟩
theorem G9(l:List UInt8)(d d':Sd)(L:Li l d)(hi:d.i<l.length)(h:iF l d=.ok d'):Li l d'/\d.i<d'.i:=by
 obtain⟨i,ns,own,now⟩:=d;simp only[]at hi;rw[MS]at h;have b1:=jA l i (by omega);have L':Li l ⟨bl l i,ns,own,now⟩:=Di L (bl l i) b1.1 b1.2;have mid:∀d1,(if nx l (bl l i)=91 then fQ l ⟨bl l i,ns,own,now⟩ else if nx l (bl l i)=34\/aN (nx l (bl l i))=true then rdPair l ⟨bl l i,ns,own,now⟩ else .ok ⟨bl l i,ns,own,now⟩)=.ok d1->Li l d1/\bl l i<=d1.i:=fun d1 hh=>by
  split at hh
  ·rename_i hx;obtain⟨a,b⟩:=MO l _ d1 L' (bu (l:=l) (i:=bl l i) (by rw[hx];decide)) hh;exact⟨a,Nat.le_of_lt b⟩
  ·split at hh
   ·obtain⟨a,b⟩:=MM l _ d1 L' hh;exact⟨a,Nat.le_of_lt b⟩
   ·cases hh
    exact⟨L',Nat.le_refl _⟩
 cases hm:(if nx l (bl l i)=91 then fQ l ⟨bl l i,ns,own,now⟩ else if nx l (bl l i)=34\/aN (nx l (bl l i))=true then rdPair l ⟨bl l i,ns,own,now⟩ else .ok ⟨bl l i,ns,own,now⟩) with
 | error e=>rw[hm]at h;cases h
 | ok d1 =>
  rw[hm]at h;obtain⟨L1,h1⟩:=mid d1 hm;have h2:qX l d1 (bi l (bl l d1.i))=.ok d':=h;have b2:=jA l d1.i L1.le;have c2:=Aa l (bl l d1.i) b2.2;unfold qX at h2;split at h2
  ·cases h2
  ·split at h2
   ·rename_i hx;have:=zW hx
    cases h2
    exact⟨Di L1 _ (by omega) c2.2,by simp only[];omega⟩
   ·cases hq:must l (bi l (bl l d1.i)).2 10 with
    | error e=>rw[hq]at h2;cases h2
    | ok q =>
     rw[hq]at h2;obtain⟨m1,m2⟩:=wK l _ _ 10 (by decide) hq
     cases h2
     exact⟨Di L1 q (by omega) (by omega),by simp only[];omega⟩
theorem Dj(l:List UInt8):Li l ⟨0,[⟨0,[],[],0,[],0⟩],[],0⟩:=by
 have hk:∀p,ae [(⟨0,[],[],0,[],0⟩:Tn)] p=[]:=fun p=>by
  unfold ae
  cases p with
  | zero=>rfl
  | succ p=>rfl
 refine⟨⟨⟨fun p p' q h=>?_,fun p q h=>?_,fun q h=>?_,fun p=>?_⟩,fun q hq=>?_,by simp,rfl⟩,rfl,Nat.zero_le _,by simp,by simp⟩
 ·rw[hk]at h;cases h
 ·rw[hk]at h;cases h
 ·cases h
 ·rw[hk];simp
 ·exfalso;unfold aj at hq
  cases q with
  | zero=>exact absurd (show(0:Int)=2 from hq) (by decide)
  | succ q=>exact absurd (show(-1:Int)=2 from hq) (by decide)
open Go.RowKit Go.Maps Go.WideMaps Go.Joins
theorem acr:hold [(⟨0,[],[],0,[],0⟩:Tn)] []=fun _ _=>none:=by
 funext t k;unfold hold;have:ah [(⟨0,[],[],0,[],0⟩:Tn)] t k=none:=by
  rw[qp];unfold ae
  cases t with
  | zero=>rfl
  | succ t=>rfl
 rw[this];split<;>rfl
theorem acs(w:World):Tr (((w.alloc (.cells #[.int .i64 0,.string ⟨#[]⟩,.string ⟨#[]⟩,.int .i64 0,.slice none 0 0,.int .i64 0] 64)).alloc (.map #[] 0)).alloc (.cells #[.slice (some ⟨w.heap.size,0,none⟩) 1 1,.map (some (w.heap.size+1)),.int .i64 0] 129)) w.heap.size (w.heap.size+2) [⟨0,[],[],0,[],0⟩] [] 0:=by
 obtain⟨w1,hw1⟩:=zN (w.alloc (.cells #[.int .i64 0,.string ⟨#[]⟩,.string ⟨#[]⟩,.int .i64 0,.slice none 0 0,.int .i64 0] 64));have n1:=heap_alloc_new w (.cells #[.int .i64 0,.string ⟨#[]⟩,.string ⟨#[]⟩,.int .i64 0,.slice none 0 0,.int .i64 0] 64);have s1:(w.alloc (.cells #[.int .i64 0,.string ⟨#[]⟩,.string ⟨#[]⟩,.int .i64 0,.slice none 0 0,.int .i64 0] 64)).heap.size=w.heap.size+1:=World.size_alloc _ _;rw[hw1]at n1 s1 ⊢;have m2:=HM.made w1;have g2:w1.grownBy (w1.alloc (.map #[] 0)) none:=World.grownBy_alloc _ _ _;have s2:(w1.alloc (.map #[] 0)).heap.size=w.heap.size+2:=by rw[World.size_alloc,s1]
 rw[s1]at m2;obtain⟨w2,hw2⟩:=zN (w1.alloc (.map #[] 0));rw[hw2]at m2 g2 s2 ⊢;have n3:=heap_alloc_new w2 (.cells #[.slice (some ⟨w.heap.size,0,none⟩) 1 1,.map (some (w.heap.size+1)),.int .i64 0] 129);have g3:w2.grownBy (w2.alloc (.cells #[.slice (some ⟨w.heap.size,0,none⟩) 1 1,.map (some (w.heap.size+1)),.int .i64 0] 129)) none:=World.grownBy_alloc _ _ _;rw[s2]at n3;have n1':=jf (jf n1 g2) g3;obtain⟨es,cc,hm⟩:=m2.map;refine⟨w.heap.size,1,w.heap.size+1,[.int .i64 0,.string ⟨#[]⟩,.string ⟨#[]⟩,.int .i64 0,.slice none 0 0,.int .i64 0],fun _=>.slice none 0 0,?_⟩;refine⟨n3,by omega,⟨rfl,Or.inr ⟨w.heap.size,1,_,rfl,Nat.le_refl _,n1',Nat.le_refl _,by unfold maxLen;omega,rfl,rfl⟩⟩,fun i hi=>?_,fun i hi=>?_,fun i j g hi hj h1 _=>?_,?_,by omega⟩
 ·have:i=0:=by simp at hi;omega
  subst this;exact⟨rfl,rfl,rfl,rfl,rfl,rfl⟩
 ·have:i=0:=by simp at hi;omega
  subst this;exact⟨rfl,Or.inl ⟨rfl,rfl⟩⟩
 ·cases h1
 ·rw[acr];exact(m2.mono (by simp)).block (g3.block _ (aA hm) (by simp))
theorem acu(w:World):(Instr.makeMap 127 none).run prog w=.ok (.map (some w.heap.size)) (w.alloc (.map #[] 0)):=by kernel_rfl
theorem acv(w:World):Calls prog 71 #[] w fun e w'=>e=.returned (.pointer (some ⟨w.heap.size+2,0,none⟩))/\Tr w' w.heap.size (w.heap.size+2) [⟨0,[],[],0,[],0⟩] [] 0/\w.grownBy w' none:=by
 have HT:Hd (Tr (((w.alloc (.cells #[.int .i64 0,.string ⟨#[]⟩,.string ⟨#[]⟩,.int .i64 0,.slice none 0 0,.int .i64 0] 64)).alloc (.map #[] 0)).alloc (.cells #[.slice (some ⟨w.heap.size,0,none⟩) 1 1,.map (some (w.heap.size+1)),.int .i64 0] 129)) w.heap.size (w.heap.size+2) [⟨0,[],[],0,[],0⟩] [] 0):=acs w;have hmk:=acu (w.alloc (.cells #[.int .i64 0,.string ⟨#[]⟩,.string ⟨#[]⟩,.int .i64 0,.slice none 0 0,.int .i64 0] 64));rw[World.size_alloc]at hmk;go_enter func71,ntmps71;go_wp2;go_ret;exact⟨rfl,HT.o,ai (ai (World.grownBy_alloc _ _ none) (World.grownBy_alloc _ _ none)) (World.grownBy_alloc _ _ none)⟩
open Go.RowKit Go.Maps Go.WideMaps Go.Joins
def UY(s:ByteArray)(E:Int->TypeId × Value)(r:Rs (List Tn))(w:World)(e:Ending)(w':World):Prop :=
 (∀ns,r=.ok ns->∃N c M T xs ks now n f,e=.returned (.tuple #[.slice (some ⟨N,0,none⟩) ns.length c,.nilIface])/\TrD w' w.heap.size T ns now N c M xs ks n f) ∧
 (∀c p,r=.error (c,p)->∃v,e=.returned (.tuple #[.slice none 0 0,v])/\((c=1/\v=.iface (E 1).1 (E 1).2)\/aS w' v E c p))/\w.grownBy w' none
theorem Ha(l:List UInt8)(f:Nat)(d:Sd):jc l (f+1) d=if l.length<=d.i then .ok d else match iF l d with | .error e=>.error e | .ok d1=>jc l f d1:=rfl
theorem Dk{w w':World}(h:Below w.heap.size w w'):w.grownBy w' none:=⟨h.os,h.tape,h.output,h.size,fun k hk _=>h.block k hk⟩
def acw:Rs Sd->Rs (List Tn)
 | .error e=>.error e
 | .ok d=>.ok d.ns
theorem He(l:List UInt8):jy l=if 100000<l.length then .error (1,0) else acw (jc l (l.length+1) ⟨0,[⟨0,[],[],0,[],0⟩],[],0⟩):=by
 unfold jy;split
 ·rfl
 ·cases jc l (l.length+1) ⟨0,[⟨0,[],[],0,[],0⟩],[],0⟩<;>rfl
theorem acx(s:ByteArray)(E:Int->TypeId × Value)(w:World)(G:Gl w w.heap.size E)(hlo:w.cell? ⟨0,0,none⟩=some (.iface (E 1).1 (E 1).2))(hmx:s.size<2 ^ 62) :
  Calls prog 47 #[.string s] w (UY s E (jy s.data.toList) w):=by
 have hl:s.data.toList.length=s.size:=by simp
 have Nj:Hd (Calls prog 71 #[] w fun e w'=>e=.returned (.pointer (some ⟨w.heap.size+2,0,none⟩))/\Tr w' w.heap.size (w.heap.size+2) [⟨0,[],[],0,[],0⟩] [] 0/\w.grownBy w' none):=acv w;have HE:=He s.data.toList;rw[hl]at HE
 by_cases hbig:100000<s.size
 ·rw[if_pos hbig]at HE;rw[HE];have hb:(100000:Int)<(s.size:Int):=by omega
  have HR1:Hd (∀ty pv,(E 1).1=ty->(E 1).2=pv->True):=fun _ _ _ _=>trivial
  obtain⟨ty,hty⟩:=zN ((E 1).1);obtain⟨pv,hpv⟩:=zN ((E 1).2);have oM:Hd ((E 1).1=ty/\(E 1).2=pv):=⟨hty,hpv⟩;rw[hty,hpv]at hlo;clear HE Nj G hty hpv HR1 hbig;go_enter func47,ntmps47;go_wp2;go_quiet (fail);go_wp2;refine bodyPost_ret (results_tmp2 (t:=2) (u:=3) rfl _ _ _) rfl ?_;exact⟨fun ns hh=>(by cases hh),fun c p hh=>(by cases hh;exact⟨_,rfl,Or.inl ⟨rfl,by rw[oM.o.1,oM.o.2];rfl⟩⟩),au (ak w none) _⟩
 ·rw[if_neg hbig]at HE;rw[HE];have hb:(s.size:Int)<=100000:=by omega
  have hs:s.size<=100000:=by omega
  obtain⟨B,Hf⟩:=zN (w.heap.size);have CL:Hd (∀R T d wr,Rd wr R s d.i T->Tr wr B T d.ns d.own d.now->B<=R->Below B w wr->Li s.data.toList d->Calls prog 72 #[.pointer (some ⟨R,0,none⟩)] wr (lU B R T s E (iF s.data.toList d) wr)):=fun R T d wr h1 h2 h3 h4 h5=>acn B R T s E d.own d.now d.i d.ns wr h1 h2 ((Hf ▸ G).bel h4) h3 hs h5
  have BM:Hd (∀d d',Li s.data.toList d->d.i<s.size->iF s.data.toList d=.ok d'->Li s.data.toList d'/\d.i<d'.i):=fun d d' a b c=>G9 s.data.toList d d' a (by omega) c
  obtain⟨S,hS⟩:=zN (jc s.data.toList (s.data.toList.length+1) ⟨0,[⟨0,[],[],0,[],0⟩],[],0⟩);have HS:Hd (jc s.data.toList (s.data.toList.length+1) ⟨0,[⟨0,[],[],0,[],0⟩],[],0⟩=S):=hS;rw[<-hl,hS];have dP:Hd (w.heap.size=B):=Hf;rw[Hf]at Nj;clear HE hbig hS G hlo Hf;go_enter func47,ntmps47;go_wp2_with (go_at_call 71;refine Nj.o.mono ?_);rintro e w1 ⟨rfl,ht1,hg1⟩;obtain⟨R,hRe⟩:=zN (w1.heap.size);have jg:B<=R:=by have:=hg1.size;have:=dP.o;omega
  have hn:=heap_alloc_new w1 (.cells #[.string s,.int .i64 0,.pointer (some ⟨B+2,0,none⟩)] 125);rw[hRe]at hn;have hgR:=World.grownBy_alloc w1 (.cells #[.string s,.int .i64 0,.pointer (some ⟨B+2,0,none⟩)] 125) none;obtain⟨w2,hw2⟩:=zN (w1.alloc (.cells #[.string s,.int .i64 0,.pointer (some ⟨B+2,0,none⟩)] 125));rw[hw2]at hn hgR;have HR2:Hd (Rd w2 R s 0 (B+2)):=hn;have HT2:Hd (Tr w2 B (B+2) [⟨0,[],[],0,[],0⟩] [] 0):=ht1.gb hgR;have HB2:Hd (Below B w w2):=mQ (ai hg1 hgR) (by have:=dP.o;omega);clear hn hgR ht1 hg1;go_wp2;go_loopw [2,3] (fun v2 v3 wr=>v2=.slice none 0 0/\v3=.nilIface/\∃(d:Sd) (f:Nat),Rd wr R s d.i (B+2)/\Tr wr B (B+2) d.ns d.own d.now/\Li s.data.toList d/\Below B w wr/\jc s.data.toList f d=S/\s.size-d.i<f) (fun _ _ wr=>s.size-(match wr.cell? ⟨R,1,none⟩ with|some (.int _ k)=>k.toNat|_=>0))
  case atStart=>exact⟨rfl,rfl,⟨0,[⟨0,[],[],0,[],0⟩],[],0⟩,s.data.toList.length+1,HR2.o,HT2.o,Dj _,HB2.o,HS.o,by simp⟩
  case round =>
   obtain⟨rfl,rfl,d,f,hrd,htr,Dl,hbe,hra,hf⟩:=hrel;obtain⟨f,rfl⟩:∃f',f=f'+1:=⟨f-1,by omega⟩;rw[Ha,hl]at hra;have hdl:d.i<=s.size:=by have:=Dl.le;omega
   have kJ:Hd (Rd wr R s d.i (B+2)):=hrd;have HTK:Hd (Tr wr B (B+2) d.ns d.own d.now):=htr;have HLK:Hd (Li s.data.toList d):=Dl;have kK:Hd (Below B w wr):=hbe;have gI:Hd ((match wr.cell? ⟨R,1,none⟩ with|some (.int _ k)=>k.toNat|_=>0)=d.i):=by show _=_;rw[hrd.cells.2.1];simp
   obtain⟨c0,c1,c2,-⟩:=hrd.cells;obtain⟨k,hk⟩:=zN (d.i);rw[hk]at c1 hdl hf;have HKK:Hd (d.i=k):=hk
   by_cases hlt:k<s.size
   ·have hlt':(k:Int)<(s.size:Int):=by omega
    rw[if_neg (by omega)]at hra;have lN:=CL.o R (B+2) d wr hrd htr jg hbe Dl;have xm:=BM.o d;obtain⟨LR,UZ⟩:=zN (iF s.data.toList d);rw[UZ]at lN xm hra;have zq:Hd (Calls prog 72 #[.pointer (some ⟨R,0,none⟩)] wr (lU B R (B+2) s E LR wr)):=lN;have HL2:Hd (∀d',Li s.data.toList d->d.i<s.size->LR=.ok d'->Li s.data.toList d'/\d.i<d'.i):=xm;have AB:Hd (_=S):=hra;clear hrd htr Dl hbe hra lN xm UZ hk;go_wp2_with (go_at_call 72;refine zq.o.mono ?_);rintro e w3 ⟨p1,p2,p3⟩;have HB3:Hd (Below B w w3):=kK.o.trans p3
    cases LR with
    | error ec =>
     obtain⟨ec1,ec2⟩:=ec;obtain⟨F,rfl,hF⟩:=p2 ec1 ec2 rfl;have dS:Hd (aS w3 (.iface 130 (.pointer (some ⟨F,0,none⟩))) E ec1 ec2):=hF;have az:Hd (S=.error (ec1,ec2)):=AB.o.symm;clear p1 p2 p3 hF c0 c1 c2;go_wp2;refine bodyPost_ret (results_tmp2 (t:=2) (u:=3) rfl _ _ _) rfl ?_;rw[az.o];exact⟨fun ns hh=>(by cases hh),fun c p hh=>(by cases hh;exact⟨_,rfl,Or.inr dS.o⟩),Dk (by rw[dP.o];exact HB3.o)⟩
    | ok d1 =>
     obtain⟨rfl,hr3,ht3⟩:=p1 d1 rfl;have hkd:d.i<s.size:=by rw[HKK.o];exact hlt
     obtain⟨U0,hgo⟩:=HL2.o d1 HLK.o hkd rfl;have HR3:Hd (Rd w3 R s d1.i (B+2)):=hr3;have HT3:Hd (Tr w3 B (B+2) d1.ns d1.own d1.now):=ht3;have tZ:Hd (Li s.data.toList d1):=U0;have az:Hd (jc s.data.toList f d1=S):=AB.o;have nN:Hd (d.i<d1.i):=hgo;clear p1 p2 p3 hr3 ht3 U0 hgo c0 c1 c2;go_wp2;go_roundw
     case rel=>exact⟨rfl,rfl,d1,f,HR3.o,HT3.o,tZ.o,HB3.o,az.o,by have h1:=nN.o;have h2:=HKK.o;have h3:=tZ.o.le;omega⟩
     case measure =>
      rw[gI.o,HR3.o.cells.2.1];have h1:=nN.o;have h2:=HKK.o;simp;omega
   ·have hkl:¬(k:Int)<(s.size:Int):=by omega
    rw[if_pos (by omega)]at hra;have az:Hd (S=.ok d):=hra.symm;have acy:=htr;obtain⟨N,c,M,xs,ks,hD⟩:=acy;have t0:=hD.cells.1;have HD:Hd (TrD wr B (B+2) d.ns d.now N c M xs ks (d.ns.length+d.own.length) (hold d.ns d.own)):=hD;clear hrd htr Dl hbe hra hk hD;go_wp2;refine bodyPost_ret (results_tmp2 (t:=2) (u:=3) rfl _ _ _) rfl ?_;rw[az.o];exact⟨fun ns hh=>(by cases hh;exact⟨N,c,M,B+2,xs,ks,d.now,_,_,rfl,by rw[dP.o];exact HD.o⟩),fun c p hh=>(by cases hh),Dk (by rw[dP.o];exact kK.o)⟩
open Go.RowKit Go.Maps Go.WideMaps Go.Joins
def NuS(w:World)(v:Value)(l:List Nat):Prop:=∃o c,v=.slice o l.length c/\∀i (hi:i<l.length),∃g,o=some ⟨g,0,none⟩/\w.cell? ⟨g,i,none⟩=some (.int .i64 (l[i]:Nat))
theorem NuS.of{w:World}{B:Nat}{v:Value}{l:List Nat}(h:w.ownsRow B 3 1 v l.length (l.map fun q=>.int .i64 (q:Nat))):NuS w v l:=by
 obtain⟨o,c,hv⟩:=kV h;refine⟨o,c,hv,fun i hi=>?_⟩;rw[hv]at h
 rcases h.2 with⟨e1,e2⟩|⟨g,cap,cur,e1,_⟩
 ·omega
 ·injection e1 with e1 _ _
  refine⟨g,e1,?_⟩;have:=h.cells (g:=g) (by rw[e1];rfl) i (.int .i64 (l[i]:Nat)) (by rw[List.getElem?_map,List.getElem?_eq_getElem hi];rfl);rw[mr]at this;exact this
def NoS(w:World)(v:Value)(ns:List Tn):Prop:=∃o c,v=.slice o ns.length c/\∀i (hi:i<ns.length),∃g k,o=some ⟨g,0,none⟩/\w.cell? ⟨g,i*6,none⟩=some (.int .i64 ns[i].kd)/\w.cell? ⟨g,i*6+1,none⟩=some (.string ⟨ns[i].ky.toArray⟩)/\w.cell? ⟨g,i*6+2,none⟩=some (.string ⟨ns[i].tx.toArray⟩)/\w.cell? ⟨g,i*6+3,none⟩=some (.int .i64 ns[i].nu)/\w.cell? ⟨g,i*6+4,none⟩=some k/\w.cell? ⟨g,i*6+5,none⟩=some (.int .i64 (ns[i].pl:Nat))/\NuS w k ns[i].ks
theorem NuS.grow{w w':World}{v:Value}{l:List Nat}(h:NuS w v l)(hg:w.grownBy w' none):NuS w' v l:=by
 obtain⟨o,c,hv,hc⟩:=h;refine⟨o,c,hv,fun i hi=>?_⟩;obtain⟨g,h1,h2⟩:=hc i hi;exact⟨g,h1,hg.cell h2 (by simp)⟩
theorem NoS.grow{w w':World}{v:Value}{ns:List Tn}(h:NoS w v ns)(hg:w.grownBy w' none):NoS w' v ns:=by
 obtain⟨o,c,hv,hc⟩:=h;refine⟨o,c,hv,fun i hi=>?_⟩;obtain⟨g,k,e,h0,h1,h2,h3,h4,h5,h6⟩:=hc i hi;exact⟨g,k,e,hg.cell h0 (by simp),hg.cell h1 (by simp),hg.cell h2 (by simp),hg.cell h3 (by simp),hg.cell h4 (by simp),hg.cell h5 (by simp),h6.grow hg⟩
open Go.RowKit Go.Maps Go.WideMaps Go.Joins
theorem Nk(l:List UInt8):∀(f:Nat) (d d':Sd),Li l d->jc l f d=.ok d'->Li l d'
 | 0,d,d',L,h=>by cases h;exact L
 | f+1,d,d',L,h=>by
  rw[Ha]at h;split at h
  ·cases h;exact L
  ·cases hr:iF l d with
   | error e=>rw[hr]at h;cases h
   | ok d1 =>
    rw[hr]at h;exact Nk l f d1 d' (G9 l d d1 L (by omega) hr).1 h
theorem U4(l:List UInt8)(ns:List Tn)(h:jy l=.ok ns):∃own now,Jt ns own now/\aj ns 0=0/\ns.length<=200001/\l.length<=100000:=by
 rw[He]at h;split at h
 ·cases h
 ·cases ha:jc l (l.length+1) ⟨0,[⟨0,[],[],0,[],0⟩],[],0⟩ with
  | error e=>rw[ha]at h;cases h
  | ok d =>
   rw[ha]at h;have L:=Nk l _ _ _ (Dj l) ha
   cases h
   have h1:=L.nn;have h2:=L.le;exact⟨d.own,d.now,L.jt,L.rt,by omega,by omega⟩
theorem U5{l:List UInt8}{ns:List Tn}(h:jy l=.ok ns)(i:Nat)(hi:i<ns.length):ns[i].ks.length<=1000000:=by
 obtain⟨own,now,J,-,hn,-⟩:=U4 l ns h;have:=J.wf.len i;unfold ae at this;rw[List.getElem?_eq_getElem hi]at this;simp only[]at this;omega
theorem Gl.up{w:World}{B B':Nat}{E:Int->TypeId × Value}(h:Gl w B E)(hB:B<=B'):Gl w B' E :=
 ⟨h.es,⟨Nat.lt_of_lt_of_le h.lo.te hB,Nat.lt_of_lt_of_le h.lo.ra hB,Nat.lt_of_lt_of_le h.lo.ma hB,Nat.lt_of_lt_of_le h.lo.tw hB⟩,h.tabs,Nat.lt_of_lt_of_le h.t3 hB,Nat.lt_of_lt_of_le h.t4 hB⟩
end Go.Proofs.YtnnbgjaphfhibaaGreatDoor
