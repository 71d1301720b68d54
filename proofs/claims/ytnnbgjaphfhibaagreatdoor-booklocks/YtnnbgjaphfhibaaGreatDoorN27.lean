import Derived.Test.YtnnbgjaphfhibaaGreatDoorN19
set_option linter.unusedVariables false
set_option linter.unusedSimpArgs false
set_option maxRecDepth 100000
set_option maxHeartbeats 6400000
open Go.Proofs.Tryz
namespace Go.Proofs.YtnnbgjaphfhibaaGreatDoor
open Go.RowKit Go.Maps Go.WideMaps Go.Joins
theorem abg(l:List UInt8):∀(f i:Nat) (c:Int) (p:Nat),gap l f i=.error (c,p)->c=2:=by
 intro f
 induction f with
 | zero=>intro i c p h;cases h;rfl
 | succ f ih =>
  intro i c p h;rw[tH]at h;split at h
  ·cases h;rfl
  ·split at h
   ·exact ih _ c p h
   ·cases h
def Gw(B R T:Nat)(s:ByteArray)(E:Int->TypeId × Value)(own:List Nat)(now:Nat)(m:List Tn)(g:Rs Nat)(w:World)(e:Ending)(w':World):Prop:=(∀j,g=.ok j->e=.returned .nilIface/\Rd w' R s j T/\Tr w' B T m own now)/\(∀c p,g=.error (c,p)->∃F,e=.returned (.iface 130 (.pointer (some ⟨F,0,none⟩)))/\aS w' (.iface 130 (.pointer (some ⟨F,0,none⟩))) E c p)/\Below B w w'
theorem abh(B R T:Nat)(s:ByteArray)(E:Int->TypeId × Value)(own:List Nat)(now i:Nat)(m:List Tn)(w:World)(h:Rd w R s i T)(ht:Tr w B T m own now)(G:Gl w B E)(hR:B<=R)(hi:i<=s.size)(hs:s.size<=100000) :
  Calls prog 219 #[.pointer (some ⟨R,0,none⟩)] w (Gw B R T s E own now m (gap s.data.toList (s.data.toList.length+1) i) w) :=
 (Xp R s i T (E 2).1 (E 2).2 w h hi (by omega) G.es.te (zg G.lo hR).te).mono fun e w' ⟨h1,h2,h3⟩=>⟨fun j hj=>⟨(h1 j hj).1,(h1 j hj).2,ht.keepR h h3⟩,fun c p hp=>by
  have hc:=abg _ _ _ _ _ hp;subst hc;obtain⟨v,e1,F,rfl,hF⟩:=h2 2 p hp;exact⟨F,e1,F,rfl,hF⟩,jM h3 hR ht.base⟩
def zi(B R T:Nat)(s:ByteArray)(E:Int->TypeId × Value)(own:List Nat)(now:Nat)(m:List Tn)(r:Rs Nat)(w:World)(e:Ending)(w':World):Prop:=(∀j,r=.ok j->e=.returned .nilIface/\Rd w' R s j T/\Tr w' B T m own now)/\(∀c p,r=.error (c,p)->∃F,e=.returned (.iface 130 (.pointer (some ⟨F,0,none⟩)))/\aS w' (.iface 130 (.pointer (some ⟨F,0,none⟩))) E c p)/\Below B w w'
theorem TU(B R T:Nat)(s:ByteArray)(E:Int->TypeId × Value)(own:List Nat)(now i:Nat)(c:Int)(hc:0<=c)(m:List Tn)(w:World)(h:Rd w R s i T)(ht:Tr w B T m own now)(G:Gl w B E)(hR:B<=R)(hi:i<=s.size)(hs:s.size<=100000) :
  Calls prog 109 #[.pointer (some ⟨R,0,none⟩),.int .i64 c] w (zi B R T s E own now m (must s.data.toList i c) w) :=
 (IP R s i T c (E 2).1 (E 2).2 w h hi (by omega) hc G.es.te).mono fun e w' ⟨h1,h2,h3⟩=>by
  unfold must
  by_cases hx:nx s.data.toList i=c
  ·rw[if_pos hx];exact⟨fun j hj=>(by cases hj;exact⟨(h1 hx).1,(h1 hx).2,ht.keepR h h3⟩),fun c p hp=>(by cases hp),jM h3 hR ht.base⟩
  ·rw[if_neg hx];obtain⟨⟨v,e1,F,rfl,hF⟩,-⟩:=h2 hx;exact⟨fun j hj=>(by cases hj),fun c p hp=>(by cases hp;exact⟨F,e1,F,rfl,hF⟩),jM h3 hR ht.base⟩
theorem abj(l:List UInt8)(f i up d:Nat)(ns:List Tn):lst l (f+1) i up d ns =
  match gap l (l.length+1) i with
  | .error e=>.error e
  | .ok j =>
   if nx l j=93 then(match must l j 93 with | .error e=>.error e | .ok q=>.ok (q,ns))
   else match val l f j up [] j d ns with
    | .error e=>.error e
    | .ok (j1,ns1)=>match gap l (l.length+1) j1 with
     | .error e=>.error e
     | .ok j2=>if nx l j2=44 then lst l f (j2+1) up d ns1 else(match must l j2 93 with | .error e=>.error e | .ok q=>.ok (q,ns1)):=by
 rw[AA]
 cases gap l (l.length+1) i with
 | error e=>rfl
 | ok j =>
  simp only[]
  by_cases h:nx l j=93
  ·rw[if_pos h,if_pos h];unfold must;rw[if_pos h]
  ·rw[if_neg h,if_neg h]
   cases val l f j up [] j d ns with
   | error e=>rfl
   | ok q =>
    obtain⟨j1,ns1⟩:=q;simp only[]
    cases gap l (l.length+1) j1 with
    | error e=>rfl
    | ok j2 =>
     simp only[]
     by_cases h4:nx l j2=44
     ·rw[if_pos h4,if_pos h4]
     ·rw[if_neg h4,if_neg h4];unfold must
      by_cases h9:nx l j2=93
      ·rw[if_pos h9,if_pos h9]
      ·rw[if_neg h9,if_neg h9]
theorem abk{B R T:Nat}{s:ByteArray}{E:Int->TypeId × Value}{own:List Nat}{now:Nat}{c:Int}{p:Nat}{w w':World}{e:Ending}(h:qQ B R T s E own now (.error (c,p)) w e w'):∃F,e=.returned (.iface 130 (.pointer (some ⟨F,0,none⟩)))/\aS w' (.iface 130 (.pointer (some ⟨F,0,none⟩))) E c p:=by
 obtain⟨v,e1,F,rfl,hF⟩:=h.2.1 c p rfl;exact⟨F,e1,F,rfl,hF⟩
structure Lk(B R T:Nat)(s:ByteArray)(own:List Nat)(now i up:Nat)(ns:List Tn)(w:World)(kx:Nat)(m:List Tn)(wr:World):Prop where
 rd:Rd wr R s kx T
 tr:Tr wr B T m own now
 wf:WF m own
 wt:WT m
 ul:up<m.length
 kd:aj m up=1
 le:kx<=s.size
 nn:m.length+i+1<=ns.length+kx
 be:Below B w wr
theorem Lk.gb{B R T:Nat}{s:ByteArray}{own:List Nat}{now i up:Nat}{ns:List Tn}{w:World}{kx:Nat}{m:List Tn}{wr w':World}(h:Lk B R T s own now i up ns w kx m wr)(hg:wr.grownBy w' none):Lk B R T s own now i up ns w kx m w':=⟨h.rd.grow hg,h.tr.gb hg,h.wf,h.wt,h.ul,h.kd,h.le,h.nn,h.be.trans (mQ hg h.tr.base)⟩
theorem Lk.to{B R T:Nat}{s:ByteArray}{own:List Nat}{now i up:Nat}{ns:List Tn}{w:World}{kx j:Nat}{m:List Tn}{wr w':World}(h:Lk B R T s own now i up ns w kx m wr)(hr:Rd w' R s j T)(ht:Tr w' B T m own now)(hb:Below B wr w')(h1:kx<=j)(h2:j<=s.size):Lk B R T s own now i up ns w j m w':=⟨hr,ht,h.wf,h.wt,h.ul,h.kd,h2,by have:=h.nn;omega,h.be.trans hb⟩
theorem Lk.ad{B R T:Nat}{s:ByteArray}{own:List Nat}{now i up:Nat}{ns:List Tn}{w:World}{kx j:Nat}{m m1:List Tn}{wr w':World}(h:Lk B R T s own now i up ns w kx m wr)(A:Ad m m1 own kx j s.size)(hr:Rd w' R s j T)(ht:Tr w' B T m1 own now)(hb:Below B wr w'):Lk B R T s own now i up ns w j m1 w':=⟨hr,ht,A.wf,A.wt,Nat.lt_of_lt_of_le h.ul A.lo,(A.kd up h.ul).trans h.kd,A.en,by have:=h.nn;have:=A.hi;omega,h.be.trans hb⟩
theorem abl(F:Nat)(IH:∀f,f<F->BB f):RU F:=by
 intro B R T s E own now i up d ns w h htr G hR hi hs W V hu h1 hd hsz hF;have hl:s.data.toList.length=s.size:=by simp
 have CG:Hd (∀kx m wr,Lk B R T s own now i up ns w kx m wr->Calls prog 219 #[.pointer (some ⟨R,0,none⟩)] wr (Gw B R T s E own now m (gap s.data.toList (s.data.toList.length+1) kx) wr)):=fun kx m wr L=>abh B R T s E own now kx m wr L.rd L.tr (G.bel L.be) hR L.le hs
 have CN:Hd (∀kx m wr,Lk B R T s own now i up ns w kx m wr->Calls prog 104 #[.pointer (some ⟨R,0,none⟩)] wr fun e w'=>e=.returned (.int .i64 (nx s.data.toList kx))/\wr.grownBy w' none):=fun kx m wr L=>l7 R s kx T wr L.rd L.le (by omega)
 have CT:Hd (∀kx m wr,Lk B R T s own now i up ns w kx m wr->Calls prog 109 #[.pointer (some ⟨R,0,none⟩),.int .i64 93] wr (zi B R T s E own now m (must s.data.toList kx 93) wr)):=fun kx m wr L=>TU B R T s E own now kx 93 (by decide) m wr L.rd L.tr (G.bel L.be) hR L.le hs
 have CV:Hd (∀f kx m wr,f<F->2*(s.size-kx)+1<=f->Lk B R T s own now i up ns w kx m wr->Calls prog 154 #[.pointer (some ⟨R,0,none⟩),.int .i64 (up:Nat),.agg #[.string ⟨#[]⟩,.int .i64 (kx:Nat)],.int .i64 (d:Nat)] wr (qQ B R T s E own now (val s.data.toList f kx up [] kx d m) wr)):=fun f kx m wr hf hkf L=>IH f hf B R T s E own now kx up [] kx d m wr L.rd L.tr (G.bel L.be) hR L.le hs L.wf L.wt L.ul (by rw[L.kd];decide) (fun e=>by rw[L.kd]at e;exact absurd e (by decide)) (by simp) hd (by have:=L.nn;have:=L.le;omega) hkf
 have HVO:Hd (∀f kx m j1 m1,kx<=s.size->WF m own->WT m->up<m.length->aj m up=1->val s.data.toList f kx up [] kx d m=.ok (j1,m1)->Ad m m1 own kx j1 s.size):=fun f kx m j1 m1 a1 a2 a3 a4 a5 a6=>by
  have:=(EY s.data.toList own f).1 kx up [] kx d m j1 m1 (by omega) a2 a3 a4 (by rw[a5];decide) a6;rw[hl]at this;exact this
 have nN:Hd (∀kx j,kx<=s.size->gap s.data.toList (s.data.toList.length+1) kx=.ok j->kx<=j/\j<=s.size):=fun kx j a b=>by
  have:=vg s.data.toList _ kx j (by omega) b;omega
 have gX:Hd (∀kx,nx s.data.toList kx=44->kx<s.size):=fun kx a=>by
  have:=bu (l:=s.data.toList) (i:=kx) (by rw[a];decide);omega
 have HST:Hd (∀f kx m,lst s.data.toList (f+1) kx up d m=_):=fun f kx m=>abj s.data.toList f kx up d m
 obtain⟨S,hS⟩:=zN (lst s.data.toList F (i+1) up d ns);have HS:Hd (lst s.data.toList F (i+1) up d ns=S):=hS;rw[hS];obtain⟨-,r1,-,rf⟩:=h.cells;have rf1:=rf 1;have hset:Rd (w.setCell ⟨R,1,none⟩ (.int .i64 ((i:Int)+1))) R s (i+1) T:=h.set (i+1);have Gx:Hd (Lk B R T s own now i up ns w (i+1) ns (w.setCell ⟨R,1,none⟩ (.int .i64 ((i:Int)+1)))):=⟨hset,htr.keepR h (iq w R 1 _),W,V,hu,h1,by omega,by omega,vS (Below.refl _ _) hR 1 _⟩;clear h htr G W V hu h1 hS rf hset IH;go_enter func199,ntmps199;go_wp2;go_loopw [] (fun wr=>∃(kx f:Nat) (m:List Tn),Lk B R T s own now i up ns w kx m wr/\2*(s.size-kx)+2<=f/\f<=F/\lst s.data.toList f kx up d m=S) (fun wr=>s.size-(match wr.cell? ⟨R,1,none⟩ with|some (.int _ k)=>k.toNat|_=>0))
 case atStart=>exact⟨i+1,F,ns,Gx.o,by omega,Nat.le_refl _,HS.o⟩
 case round =>
  obtain⟨kx,f,m,hL,hf,hfF,Lh⟩:=hrel;obtain⟨f,rfl⟩:∃f',f=f'+1:=⟨f-1,by omega⟩;rw[HST.o]at Lh;have Gy:Hd (_=S):=Lh;have HL:Hd (Lk B R T s own now i up ns w kx m wr):=hL;have C1:=CG.o kx m wr hL;have gI:Hd ((match wr.cell? ⟨R,1,none⟩ with|some (.int _ k)=>k.toNat|_=>0)=kx):=by show _=_;rw[hL.rd.cells.2.1];simp
  have ay:=nN.o kx;obtain⟨g0,hg0⟩:=zN (gap s.data.toList (s.data.toList.length+1) kx);rw[hg0]at C1 Gy ay;have xQ:Hd (Calls prog 219 #[.pointer (some ⟨R,0,none⟩)] wr (Gw B R T s E own now m g0 wr)):=C1;have zk:Hd (∀j,kx<=s.size->g0=.ok j->kx<=j/\j<=s.size):=ay;clear hL Lh C1 ay hg0;go_wp2_with (go_at_call 219;refine xQ.o.mono ?_);rintro e w2 ⟨p1,p2,p3⟩
  cases g0 with
  | error ec =>
   obtain⟨ec1,ec2⟩:=ec;obtain⟨Fb,rfl,nO⟩:=p2 ec1 ec2 rfl;have dN:Hd (aS w2 (.iface 130 (.pointer (some ⟨Fb,0,none⟩))) E ec1 ec2):=nO;have az:Hd (S=.error (ec1,ec2)):=Gy.o.symm;have dP:Hd (Below B w w2):=HL.o.be.trans p3;clear p1 p2 p3 nO;go_wp2;refine bodyPost_ret (results_tmp (t:=6) rfl _ _ _) rfl ?_;rw[az.o];exact⟨fun j ns hh=>(by cases hh),fun c p hh=>(by cases hh;exact⟨_,rfl,dN.o⟩),dP.o⟩
  | ok j0 =>
   obtain⟨rfl,hr2,ht2⟩:=p1 j0 rfl;obtain⟨gj1,gj2⟩:=zk.o j0 HL.o.le rfl;have HL2:Hd (Lk B R T s own now i up ns w j0 m w2):=HL.o.to hr2 ht2 p3 gj1 gj2;have C2:Hd (Calls prog 104 #[.pointer (some ⟨R,0,none⟩)] w2 fun e w'=>e=.returned (.int .i64 (nx s.data.toList j0))/\w2.grownBy w' none):=CN.o j0 m w2 HL2.o;have zl:=Gy.o;simp only[]at zl;have qR:=CT.o j0 m;have Lj:=CV.o f j0 m;have Ll:=HVO.o f j0 m;obtain⟨V0,hV0⟩:=zN (val s.data.toList f j0 up [] j0 d m);obtain⟨MU,lu⟩:=zN (must s.data.toList j0 93);rw[lu]at zl qR;rw[hV0]at zl Lj Ll;obtain⟨x,hx⟩:=zN (nx s.data.toList j0);rw[hx]at C2 zl;have tZ:Hd (_=S):=zl;have uq:Hd (∀wr,Lk B R T s own now i up ns w j0 m wr->Calls prog 109 #[.pointer (some ⟨R,0,none⟩),.int .i64 93] wr (zi B R T s E own now m MU wr)):=qR;have CV3:Hd (∀wr,Lk B R T s own now i up ns w j0 m wr->Calls prog 154 #[.pointer (some ⟨R,0,none⟩),.int .i64 (up:Nat),.agg #[.string ⟨#[]⟩,.int .i64 (j0:Nat)],.int .i64 (d:Nat)] wr (qQ B R T s E own now V0 wr)):=fun wr L=>Lj wr (by omega) (by omega) L
   have abm:Hd (∀j1 m1,V0=.ok (j1,m1)->Ad m m1 own j0 j1 s.size):=fun j1 m1 e=>Ll j1 m1 gj2 HL2.o.wf HL2.o.wt HL2.o.ul HL2.o.kd e
   clear p1 p2 p3 hr2 ht2 Gy zl qR Lj Ll hV0 lu hx zk;go_wp2_with (go_at_call 104;refine C2.o.mono ?_);rintro e w3 ⟨rfl,hg3⟩;have xR:Hd (Lk B R T s own now i up ns w j0 m w3):=HL2.o.gb hg3;clear hg3
   by_cases c93:x=93
   ·have e93:(x == 93)=true:=by simp[c93]
    have BO:Hd ((match (generalizing:=false) MU with | .error e=>.error e | .ok q=>.ok (q,m))=S):=by
     have:=tZ.o;rw[if_pos c93]at this;exact this
    clear c93;go_wp2_with (go_at_call 109;refine(uq.o _ xR.o).mono ?_);rintro e w4 ⟨q1,q2,q3⟩
    cases MU with
    | error ec =>
     obtain⟨ec1,ec2⟩:=ec;obtain⟨Fb,rfl,nO⟩:=q2 ec1 ec2 rfl;have dN:Hd (aS w4 (.iface 130 (.pointer (some ⟨Fb,0,none⟩))) E ec1 ec2):=nO;have az:Hd (S=.error (ec1,ec2)):=BO.o.symm;have dP:Hd (Below B w w4):=xR.o.be.trans q3;clear q1 q2 q3 nO;go_wp2;refine bodyPost_ret (results_tmp (t:=6) rfl _ _ _) rfl ?_;rw[az.o];exact⟨fun j ns hh=>(by cases hh),fun c p hh=>(by cases hh;exact⟨_,rfl,dN.o⟩),dP.o⟩
    | ok jq =>
     obtain⟨rfl,hrq,BP⟩:=q1 jq rfl;have Lm:Hd (Rd w4 R s jq T):=hrq;have Lr:Hd (Tr w4 B T m own now):=BP;have az:Hd (S=.ok (jq,m)):=BO.o.symm;have dP:Hd (Below B w w4):=xR.o.be.trans q3;clear q1 q2 q3 hrq BP;go_wp2;refine bodyPost_ret (results_tmp (t:=6) rfl _ _ _) rfl ?_;rw[az.o];exact⟨fun j ns hh=>(by cases hh;exact⟨rfl,Lm.o,Lr.o⟩),fun c p hh=>(by cases hh),dP.o⟩
   ·have e93:(x == 93)=false:=by simp[c93]
    have Lt:=tZ.o;rw[if_neg c93]at Lt;have Lu:Hd (_=S):=Lt;clear Lt;obtain⟨-,r1c,-,-⟩:=xR.o.rd.cells;clear c93 tZ;go_wp2_with (go_at_call 154;refine(CV3.o _ xR.o).mono ?_);intro e w4 hq
    cases V0 with
    | error ec =>
     obtain⟨ec1,ec2⟩:=ec;obtain⟨Fb,rfl,nO⟩:=abk hq;have dN:Hd (aS w4 (.iface 130 (.pointer (some ⟨Fb,0,none⟩))) E ec1 ec2):=nO;have az:Hd (S=.error (ec1,ec2)):=Lu.o.symm;have dP:Hd (Below B w w4):=xR.o.be.trans hq.2.2;clear hq nO r1c;go_wp2;refine bodyPost_ret (results_tmp (t:=6) rfl _ _ _) rfl ?_;rw[az.o];exact⟨fun j ns hh=>(by cases hh),fun c p hh=>(by cases hh;exact⟨_,rfl,dN.o⟩),dP.o⟩
    | ok jm =>
     obtain⟨j1,m1⟩:=jm;obtain⟨rfl,hr4,pJ⟩:=hq.1 j1 m1 rfl;have A:=abm.o j1 m1 rfl;have hA1:=A.fw;have hA2:=A.en;have Gz:Hd (Lk B R T s own now i up ns w j1 m1 w4):=xR.o.ad A hr4 pJ hq.2.2;have C5:=CG.o j1 m1 w4 Gz.o;have gQ:=nN.o j1;have GG:=Lu.o;simp only[]at GG;obtain⟨g1,hg1⟩:=zN (gap s.data.toList (s.data.toList.length+1) j1);rw[hg1]at C5 gQ GG;have LC:Hd (Calls prog 219 #[.pointer (some ⟨R,0,none⟩)] w4 (Gw B R T s E own now m1 g1 w4)):=C5;have TV:Hd (∀j,j1<=s.size->g1=.ok j->j1<=j/\j<=s.size):=gQ;have LD:Hd (_=S):=GG;clear C5 gQ GG hg1 hq hr4 pJ A r1c Lu;go_wp2_with (go_at_call 219;refine LC.o.mono ?_);rintro e w5 ⟨p1,p2,p3⟩
     cases g1 with
     | error ec =>
      obtain⟨ec1,ec2⟩:=ec;obtain⟨Fb,rfl,nO⟩:=p2 ec1 ec2 rfl;have dN:Hd (aS w5 (.iface 130 (.pointer (some ⟨Fb,0,none⟩))) E ec1 ec2):=nO;have az:Hd (S=.error (ec1,ec2)):=LD.o.symm;have dP:Hd (Below B w w5):=Gz.o.be.trans p3;clear p1 p2 p3 nO;go_wp2;refine bodyPost_ret (results_tmp (t:=6) rfl _ _ _) rfl ?_;rw[az.o];exact⟨fun j ns hh=>(by cases hh),fun c p hh=>(by cases hh;exact⟨_,rfl,dN.o⟩),dP.o⟩
     | ok j2 =>
      obtain⟨rfl,pz,wF⟩:=p1 j2 rfl;obtain⟨hj1,hj2⟩:=TV.o j2 Gz.o.le rfl;have TW:Hd (Lk B R T s own now i up ns w j2 m1 w5):=Gz.o.to pz wF p3 hj1 hj2;have C6:Hd (Calls prog 104 #[.pointer (some ⟨R,0,none⟩)] w5 fun e w'=>e=.returned (.int .i64 (nx s.data.toList j2))/\w5.grownBy w' none):=CN.o j2 m1 w5 TW.o;have BQ:=LD.o;simp only[]at BQ;have LG:=CT.o j2 m1;have TZ:Hd (nx s.data.toList j2=44->j2<s.size):=gX.o j2;obtain⟨MU,lu⟩:=zN (must s.data.toList j2 93);rw[lu]at BQ LG;obtain⟨y,hy⟩:=zN (nx s.data.toList j2);rw[hy]at C6 BQ TZ;have Ua:Hd (_=S):=BQ;have abn:Hd (∀wr,Lk B R T s own now i up ns w j2 m1 wr->Calls prog 109 #[.pointer (some ⟨R,0,none⟩),.int .i64 93] wr (zi B R T s E own now m1 MU wr)):=LG;clear p1 p2 p3 pz wF BQ LG lu hy LD TV;go_wp2_with (go_at_call 104;refine C6.o.mono ?_)
      rintro e w6 ⟨rfl,eu⟩;have wG:Hd (Lk B R T s own now i up ns w j2 m1 w6):=TW.o.gb eu;clear eu
      by_cases c44:y=44
      ·have e44:(y != 44)=false:=by simp[c44]
       have hjl:=TZ.o c44;have abo:Hd (lst s.data.toList f (j2+1) up d m1=S):=by
        have:=Ua.o;rw[if_pos c44]at this;exact this
       obtain⟨-,r16,-,rf6⟩:=wG.o.rd.cells;have rf61:=rf6 1;have Ub:Hd (Rd (w6.setCell ⟨R,1,none⟩ (.int .i64 ((j2:Int)+1))) R s (j2+1) T):=wG.o.rd.set (j2+1);have abp:Hd (Lk B R T s own now i up ns w (j2+1) m1 (w6.setCell ⟨R,1,none⟩ (.int .i64 ((j2:Int)+1)))):=wG.o.to Ub.o (wG.o.tr.keepR wG.o.rd (iq w6 R 1 _)) (vS (Below.refl _ _) hR 1 _) (by omega) (by omega);clear c44 rf6;go_wp2;refine⟨⟨j2+1,f,m1,abp.o,by omega,by omega,abo.o⟩,?_⟩;rw[gI.o,Ub.o.cells.2.1];simp;omega
      ·have e44:(y != 44)=true:=by simp[c44]
       have BO:Hd ((match (generalizing:=false) MU with | .error e=>.error e | .ok q=>.ok (q,m1))=S):=by
        have:=Ua.o;rw[if_neg c44]at this;exact this
       clear c44;go_wp2_with (go_at_call 109;refine(abn.o _ wG.o).mono ?_);rintro e w7 ⟨q1,q2,q3⟩
       cases MU with
       | error ec =>
        obtain⟨ec1,ec2⟩:=ec;obtain⟨Fb,rfl,nO⟩:=q2 ec1 ec2 rfl;have dN:Hd (aS w7 (.iface 130 (.pointer (some ⟨Fb,0,none⟩))) E ec1 ec2):=nO;have az:Hd (S=.error (ec1,ec2)):=BO.o.symm;have dP:Hd (Below B w w7):=wG.o.be.trans q3;clear q1 q2 q3 nO;go_wp2;refine bodyPost_ret (results_tmp (t:=6) rfl _ _ _) rfl ?_;rw[az.o];exact⟨fun j ns hh=>(by cases hh),fun c p hh=>(by cases hh;exact⟨_,rfl,dN.o⟩),dP.o⟩
       | ok jq =>
        obtain⟨rfl,hrq,BP⟩:=q1 jq rfl;have Lm:Hd (Rd w7 R s jq T):=hrq;have Lr:Hd (Tr w7 B T m1 own now):=BP;have az:Hd (S=.ok (jq,m1)):=BO.o.symm;have dP:Hd (Below B w w7):=wG.o.be.trans q3;clear q1 q2 q3 hrq BP;go_wp2;refine bodyPost_ret (results_tmp (t:=6) rfl _ _ _) rfl ?_;rw[az.o];exact⟨fun j ns hh=>(by cases hh;exact⟨rfl,Lm.o,Lr.o⟩),fun c p hh=>(by cases hh),dP.o⟩
open Go.RowKit Go.Maps Go.WideMaps Go.Joins
theorem abq(d:Nat)(h:d<=8):IntKind.i64.wrap ((d:Int)+1)=(d:Int)+1:=by
 rw[IntKind.wrap_i64];omega
theorem abr{B R T:Nat}{s:ByteArray}{E:Int->TypeId × Value}{own:List Nat}{now:Nat}{r:Rs (Nat × List Tn)}{w w' w'':World}{e:Ending}(hb:Below B w w')(h:qQ B R T s E own now r w' e w''):∃v,e=.returned v/\Hd (qQ B R T s E own now r w (.returned v) w''):=by
 cases r with
 | error ec =>
  obtain⟨c,p⟩:=ec;obtain⟨v,rfl,hv⟩:=h.2.1 c p rfl;exact⟨v,rfl,fun j ns hh=>(by cases hh),fun c p hh=>(by cases hh;exact⟨v,rfl,hv⟩),hb.trans h.2.2⟩
 | ok q =>
  obtain⟨j,ns⟩:=q;obtain⟨rfl,h1,h2⟩:=h.1 j ns rfl;exact⟨_,rfl,fun j ns hh=>(by cases hh;exact⟨rfl,h1,h2⟩),fun c p hh=>(by cases hh),hb.trans h.2.2⟩
theorem abt(F:Nat)(IH:RU F):BB (F+1):=by
 intro B R T s E own now i up k p d ns w h htr G hR hi hs W V hu h2 hfree hk hd hsz hF;have hB:B<=w.heap.size:=htr.base;have hl:s.data.toList.length=s.size:=by simp
 have CN:Hd (∀k w,Rd w R s k T->k<=s.size->Calls prog 104 #[.pointer (some ⟨R,0,none⟩)] w fun e w'=>e=.returned (.int .i64 (nx s.data.toList k))/\w.grownBy w' none):=fun k w h1 h2=>l7 R s k T w h1 h2 (by omega)
 have CD:Hd (∀c w,Calls prog 151 #[.int .i64 c] w fun e w'=>e=.returned (.bool (ax c))/\w'=w):=Et;have CA:Hd (∀(kd:Int) w',Tr w' B T ns own now->Calls prog 196 #[.pointer (some ⟨T,0,none⟩),.int .i64 (up:Nat),.int .i64 kd,.agg #[.string ⟨k.toArray⟩,.int .i64 (p:Nat)]] w' (qE B T ns own now up ⟨kd,k,[],0,[],p⟩ w')):=fun kd w' h'=>yL B T ns own now up kd k p w' h' W hu hfree (by omega) hk
 have CH:Hd (∀w',Below B w w'->Rd w' R s i T->Calls prog 156 #[.pointer (some ⟨R,0,none⟩)] w' fun e w''=>(∃v,e=.returned v/\aS w'' v E 2 i)/\w'.grownBy w'' none):=fun w' hb hr=>(uS R s i T (E 2).1 (E 2).2 w' hr (G.bel hb).es.te).mono fun e w'' h=>h
 have CW:Hd (∀w,Calls prog 195 #[.iface (E 4).1 (E 4).2,.int .i64 (i:Nat)] w fun e w'=>(∃v,e=.returned v/\aS w' v E 4 i)/\w.grownBy w' none):=fun w=>rE i (E 4).1 (E 4).2 w
 have CQ:Hd (nx s.data.toList i=34->∀w',Below B w w'->Rd w' R s i T->Calls prog 193 #[.pointer (some ⟨R,0,none⟩)] w' (Fe R s T E (str s.data.toList (s.data.toList.length+1) (i+1) []) w')):=fun hx w' hb hr=>QR R s i T E w' hr (by have:=bu (l:=s.data.toList) (i:=i) (by rw[hx];decide);omega) (by omega) (G.bel hb).es (zg G.lo hR) (G.bel hb).tabs (by have:=G.t3;omega) (by have:=G.t4;omega)
 have CI:Hd ((nx s.data.toList i=43\/nx s.data.toList i=45\/ax (nx s.data.toList i)=true)->∀w',Below B w w'->Rd w' R s i T->Calls prog 197 #[.pointer (some ⟨R,0,none⟩)] w' (Ac R s T E (iQ s.data.toList i) w')):=fun hx w' hb hr=>YH R s i T E w' hr (by omega) (G.bel hb).es (zg G.lo hR) (by rcases hx with h|h|h;exact Or.inr (Or.inl h);exact Or.inr (Or.inr h);exact Or.inl h)
 have CT:Hd (∀w',Below B w w'->Rd w' R s i T->Calls prog 198 #[.pointer (some ⟨R,0,none⟩)] w' (Ac R s T E (kH s.data.toList i) w')):=fun w' hb hr=>Xr R s i T E w' hr hi (by omega) (G.bel hb).es (zg G.lo hR)
 have CL:Hd (nx s.data.toList i=91->¬d=8->∀w',Below B w w'->Rd w' R s i T->Tr w' B T (addN ns up ⟨1,k,[],0,[],p⟩) own now->Calls prog 199 #[.pointer (some ⟨R,0,none⟩),.int .i64 (ns.length:Nat),.int .i64 ((d+1:Nat):Int)] w' (qQ B R T s E own now (lst s.data.toList F (i+1) ns.length (d+1) (addN ns up ⟨1,k,[],0,[],p⟩)) w')):=fun hx hd8 w' hb hr ht=>by
  have hlt:i<s.size:=by have:=bu (l:=s.data.toList) (i:=i) (by rw[hx];decide);omega
  have A:=yI (i:=i) (j:=i+1) (n:=s.size) (x:=⟨1,k,[],0,[],p⟩) W V hu h2 rfl (fun e=>absurd (show(1:Int)=2 from e) (by decide)) (by omega) (by omega);exact IH B R T s E own now i ns.length (d+1) _ w' hr ht (G.bel hb) hR hlt hs A.wf A.wt (by rw[bZ];omega) (by rw[eQ ns up _ hu,if_pos rfl]) (by omega) (by rw[bZ];omega) (by omega)
 have zn:Hd (∀w',Below B w w'->w'.cell? ⟨2,0,none⟩=some (.iface (E 4).1 (E 4).2)):=fun w' hb=>(G.bel hb).es.ma
 have Uc:=rJ s.data.toList F i up k p d ns;have HV:Hd (val s.data.toList (F+1) i up k p d ns=_):=Uc;obtain⟨S,hS⟩:=zN (val s.data.toList (F+1) i up k p d ns);rw[hS]at HV ⊢;obtain⟨SQ,Bz⟩:=zN (str s.data.toList (s.data.toList.length+1) (i+1) []);obtain⟨SI,Ud⟩:=zN (iQ s.data.toList i);obtain⟨SU,Ue⟩:=zN (kH s.data.toList i);rw[Bz]at CQ HV;rw[Ud]at CI HV;rw[Ue]at CT HV;have eG:w.grownBy (w.alloc (.cells #[.string ⟨k.toArray⟩,.int .i64 (p:Nat)] 213)) none:=World.grownBy_alloc w _ none;have bY:=heap_alloc_new w (.cells #[.string ⟨k.toArray⟩,.int .i64 (p:Nat)] 213);obtain⟨K,iR⟩:=zN (w.heap.size);rw[iR]at bY;obtain⟨w1,hw1⟩:=zN (w.alloc (.cells #[.string ⟨k.toArray⟩,.int .i64 (p:Nat)] 213));rw[hw1]at eG bY;have H1:Hd (Rd w1 R s i T):=h.grow eG;have C1:Hd (Calls prog 104 #[.pointer (some ⟨R,0,none⟩)] w1 fun e w'=>e=.returned (.int .i64 (nx s.data.toList i))/\w1.grownBy w' none):=CN.o i w1 H1.o hi
 obtain⟨x,hx⟩:=zN (nx s.data.toList i);rw[hx]at C1 HV CQ CI CL;have ay:Hd (w.grownBy w1 none):=eG;have lm:Hd (w1.heap[K]?=some (.cells #[.string ⟨k.toArray⟩,.int .i64 (p:Nat)] 213 (0,0))):=bY;have mJ:Hd (Tr w B T ns own now):=htr;clear Uc hS Bz Ud Ue eG bY hx h htr G W V h2 hfree IH;go_enter func154,ntmps154;go_wp2_with (go_at_call 104;refine C1.o.mono ?_);rintro e w2 ⟨rfl,hg2⟩;have HG2:Hd (w.grownBy w2 none):=ai ay.o hg2;have HR2:Hd (Rd w2 R s i T):=H1.o.grow hg2;have iL:Hd (w2.heap[K]?=some (.cells #[.string ⟨k.toArray⟩,.int .i64 (p:Nat)] 213 (0,0))):=jf lm.o hg2;have HT2:Hd (Tr w2 B T ns own now):=mJ.o.gb HG2.o;obtain⟨-,r1,r2,-⟩:=HR2.o.cells;obtain⟨k0,k1,-⟩:=gW iL.o;clear hg2
 by_cases c34:x=34
 ·have abu:(x == 34)=true:=by simp[c34]
  have Uf:=CQ.o c34;have J9:Hd (∀w',Below B w w'->Rd w' R s i T->Calls prog 193 #[.pointer (some ⟨R,0,none⟩)] w' (Fe R s T E SQ w')):=Uf;have wH:Hd (S=match (generalizing:=false) SQ with | .error e=>.error e | .ok (t,j)=>.ok (j,addN ns up ⟨3,k,t,0,[],p⟩)):=(by show _=_;rw[HV.o,if_pos c34];try rfl);clear c34 Uf HV CI CT CL;go_upto_region 3 with fail
  go_cut [10] from 24 (fun v wx=>v=.int .i64 (ns.length:Nat)/\Tr wx B T (addN ns up ⟨3,k,[],0,[],p⟩) own now/\Rd wx R s i T/\Below B w wx)
  case first =>
   go_region_with (first|(go_at_call 196;refine(CA.o 3 _ (HT2.o.gb (kL w2))).mono ?_;rintro e w3 ⟨rfl,ht3,hf3⟩))
   all_goals (
    go_wp2_with fail;go_meet;exact⟨rfl,ht3,Rd.fr (w:=w2.drew) HR2.o hf3,(mQ HG2.o hB).trans (Below.trans (mQ (kL w2) (Nat.le_trans hB HG2.o.size)) hf3.bel)⟩)
  case rest =>
   obtain⟨rfl,ht3,hr3,hb3⟩:=hcut;have HT3:Hd (Tr wc B T (addN ns up ⟨3,k,[],0,[],p⟩) own now):=ht3;have HB3:Hd (Below B w wc):=hb3;have HR3:Hd (Rd wc R s i T):=hr3;clear ht3 hr3 hb3 r1 r2 k0 k1;go_wp2_with (go_at_call 193;refine(J9.o _ HB3.o HR3.o).mono ?_);rintro e w4 ⟨p1,p2,p3⟩;have HT4:Hd (Tr w4 B T (addN ns up ⟨3,k,[],0,[],p⟩) own now):=HT3.o.keepR HR3.o p3;have HB4:Hd (Below B w w4):=HB3.o.trans (jM p3 hR HT3.o.base);obtain⟨N,cc,t0,⟨cs,hN⟩,hBN,n2,n3,s2,s3⟩:=HT4.o.last;have HN:Hd (w4.heap[N]?=some (.cells cs 64 (0,0))):=hN;have hnf:w4.frozen? ⟨N,ns.length*6+2,none⟩=false:=Lib.frozen_of_heap hN _;have BR:Hd (∀t:List UInt8,Tr (w4.setCell ⟨N,ns.length*6+2,none⟩ (.string ⟨t.toArray⟩)) B T (addN ns up ⟨3,k,t,0,[],p⟩) own now):=s2;have hnl:ns.length<ns.length+1:=by omega
   cases SQ with
   | error ec =>
    obtain⟨ec1,ec2⟩:=ec;obtain⟨v,rfl,hv,jj,hjj⟩:=p2 ec1 ec2 rfl;obtain⟨-,-,hrr,-⟩:=hjj.cells;have dS:Hd (aS w4 v E ec1 ec2):=hv;have az:Hd (S=.error (ec1,ec2)):=wH.o;clear p1 p2 p3 hv hN s2 s3 hjj;go_wp2;refine bodyPost_ret (results_tmp (t:=8) rfl _ _ _) rfl ?_;rw[az.o];exact⟨fun j ns hh=>(by cases hh),fun c p hh=>(by cases hh;exact⟨v,rfl,Ku dS.o HN.o⟩),vS HB4.o hBN _ _⟩
   | ok q =>
    obtain⟨tx,j⟩:=q;obtain⟨rfl,hr4⟩:=p1 tx j rfl;have HR4:Hd (Rd w4 R s j T):=hr4;obtain⟨-,-,hrr,-⟩:=hr4.cells;have az:Hd (S=.ok (j,addN ns up ⟨3,k,tx,0,[],p⟩)):=wH.o;clear p1 p2 p3 hr4 hN s2 s3;go_wp2;refine bodyPost_ret (results_tmp (t:=8) rfl _ _ _) rfl ?_;rw[az.o];exact⟨fun j ns hh=>(by cases hh;exact⟨rfl,HR4.o.node HN.o,BR.o tx⟩),fun c p hh=>(by cases hh),vS HB4.o hBN _ _⟩
 ·have abu:(x == 34)=false:=by simp[c34]
  have GH:Hd (S=if x=43\/x=45\/ax x=true then(match (generalizing:=false) SI with | .error e=>.error e | .ok (n,j)=>.ok (j,addN ns up ⟨4,k,[],n,[],p⟩)) else if x=116\/x=102 then(match (generalizing:=false) SU with | .error e=>.error e | .ok (n,j)=>.ok (j,addN ns up ⟨5,k,[],n,[],p⟩)) else if x=91 then(if d=8 then .error (4,i) else lst s.data.toList F (i+1) ns.length (d+1) (addN ns up ⟨1,k,[],0,[],p⟩)) else .error (2,i)):=(by show _=_;rw[HV.o,if_neg c34];try rfl);clear c34 HV CQ;obtain⟨bI,FY⟩:=zN (decide (x=43\/x=45\/ax x=true));have zo:Hd (decide (x=43\/x=45\/ax x=true)=bI):=FY;clear FY;go_upto_region 7 with fail
  go_cut [48] from 49 (fun v wx=>v=.bool bI/\wx=w2)
  case first =>
   by_cases a1:x=43
   ·have e1:(x == 43)=true:=by simp[a1]
    have e2:bI=true:=by rw[<-zo.o];simp[a1]
    subst e2;clear a1;go_wp2;go_meet;exact⟨rfl,rfl⟩
   ·have e1:(x == 43)=false:=by simp[a1]
    by_cases a2:x=45
    ·have e3:(x == 45)=true:=by simp[a2]
     have e2:bI=true:=by rw[<-zo.o];simp[a2]
     subst e2;clear a1 a2;go_wp2;go_meet;exact⟨rfl,rfl⟩
    ·have e3:(x == 45)=false:=by simp[a2]
     have AZ:Hd (∀w,Calls prog 151 #[.int .i64 x] w fun e w'=>e=.returned (.bool (ax x))/\w'=w):=fun w=>CD.o x w
     have e2:ax x=bI:=by rw[<-zo.o];simp[a1,a2]
     rw[e2]at AZ;clear a1 a2 e2;go_wp2_with (go_at_call 151;refine(AZ.o _).mono ?_;rintro e w' ⟨rfl,rfl⟩);go_meet;exact⟨rfl,rfl⟩
  case rest =>
   obtain⟨rfl,rfl⟩:=hcut;obtain⟨w2,hw2⟩:∃w2,w2=wc:=⟨_,rfl⟩;subst hw2
   cases bI with
   | true =>
    have hI:=of_decide_eq_true zo.o;have xU:Hd (∀w',Below B w w'->Rd w' R s i T->Calls prog 197 #[.pointer (some ⟨R,0,none⟩)] w' (Ac R s T E SI w')):=CI.o hI;have wH:Hd (S=match (generalizing:=false) SI with | .error e=>.error e | .ok (n,j)=>.ok (j,addN ns up ⟨4,k,[],n,[],p⟩)):=(by show _=_;rw[GH.o,if_pos hI];try rfl);clear hI CI CT CL GH;go_upto_region 8 with fail
    go_cut [13] from 59 (fun v wx=>v=.int .i64 (ns.length:Nat)/\Tr wx B T (addN ns up ⟨4,k,[],0,[],p⟩) own now/\Rd wx R s i T/\Below B w wx)
    case first =>
     go_region_with (first|(go_at_call 196;refine(CA.o 4 _ (HT2.o.gb (kL w2))).mono ?_;rintro e w3 ⟨rfl,ht3,hf3⟩))
     all_goals (
      go_wp2_with fail;go_meet;exact⟨rfl,ht3,Rd.fr (w:=w2.drew) HR2.o hf3,(mQ HG2.o hB).trans (Below.trans (mQ (kL w2) (Nat.le_trans hB HG2.o.size)) hf3.bel)⟩)
    case rest =>
     obtain⟨rfl,ht3,hr3,hb3⟩:=hcut;have HT3:Hd (Tr wc B T (addN ns up ⟨4,k,[],0,[],p⟩) own now):=ht3;have HB3:Hd (Below B w wc):=hb3;have HR3:Hd (Rd wc R s i T):=hr3;clear ht3 hr3 hb3 r1 r2 k0 k1;go_wp2_with (go_at_call 197;refine(xU.o _ HB3.o HR3.o).mono ?_);rintro e w4 ⟨p1,p2,p3⟩;have HT4:Hd (Tr w4 B T (addN ns up ⟨4,k,[],0,[],p⟩) own now):=HT3.o.keepR HR3.o p3;have HB4:Hd (Below B w w4):=HB3.o.trans (jM p3 hR HT3.o.base);obtain⟨N,cc,t0,⟨cs,hN⟩,hBN,n2,n3,s2,s3⟩:=HT4.o.last;have HN:Hd (w4.heap[N]?=some (.cells cs 64 (0,0))):=hN;have hnf:w4.frozen? ⟨N,ns.length*6+3,none⟩=false:=Lib.frozen_of_heap hN _;have BR:Hd (∀t:Int,Tr (w4.setCell ⟨N,ns.length*6+3,none⟩ (.int .i64 t)) B T (addN ns up ⟨4,k,[],t,[],p⟩) own now):=s3;have hnl:ns.length<ns.length+1:=by omega
     cases SI with
     | error ec =>
      obtain⟨ec1,ec2⟩:=ec;obtain⟨v,rfl,hv,jj,hjj⟩:=p2 ec1 ec2 rfl;obtain⟨-,-,hrr,-⟩:=hjj.cells;have dS:Hd (aS w4 v E ec1 ec2):=hv;have az:Hd (S=.error (ec1,ec2)):=wH.o;clear p1 p2 p3 hv hN s2 s3 hjj;go_wp2;refine bodyPost_ret (results_tmp (t:=8) rfl _ _ _) rfl ?_;rw[az.o];exact⟨fun j ns hh=>(by cases hh),fun c p hh=>(by cases hh;exact⟨v,rfl,Ku dS.o HN.o⟩),vS HB4.o hBN _ _⟩
     | ok q =>
      obtain⟨tx,j⟩:=q;obtain⟨rfl,hr4⟩:=p1 tx j rfl;have HR4:Hd (Rd w4 R s j T):=hr4;obtain⟨-,-,hrr,-⟩:=hr4.cells;have az:Hd (S=.ok (j,addN ns up ⟨4,k,[],tx,[],p⟩)):=wH.o;clear p1 p2 p3 hr4 hN s2 s3;go_wp2;refine bodyPost_ret (results_tmp (t:=8) rfl _ _ _) rfl ?_;rw[az.o];exact⟨fun j ns hh=>(by cases hh;exact⟨rfl,HR4.o.node HN.o,BR.o tx⟩),fun c p hh=>(by cases hh),vS HB4.o hBN _ _⟩
   | false =>
    have hI:=of_decide_eq_false zo.o;have qN:Hd (S=if x=116\/x=102 then(match (generalizing:=false) SU with | .error e=>.error e | .ok (n,j)=>.ok (j,addN ns up ⟨5,k,[],n,[],p⟩)) else if x=91 then(if d=8 then .error (4,i) else lst s.data.toList F (i+1) ns.length (d+1) (addN ns up ⟨1,k,[],0,[],p⟩)) else .error (2,i)):=(by show _=_;rw[GH.o,if_neg hI];try rfl);clear hI GH CI zo;obtain⟨bU,Ug⟩:=zN (decide (x=116\/x=102));have BU:Hd (decide (x=116\/x=102)=bU):=Ug;clear Ug;go_upto_region 12 with fail
    go_cut [83] from 84 (fun v wx=>v=.bool bU/\wx=w2)
    case first =>
     by_cases a1:x=116
     ·have e1:(x == 116)=true:=by simp[a1]
      have e2:bU=true:=by rw[<-BU.o];simp[a1]
      subst e2;clear a1;go_wp2;go_meet;exact⟨rfl,rfl⟩
     ·have e1:(x == 116)=false:=by simp[a1]
      have e2:(x == 102)=bU:=by rw[<-BU.o];by_cases h:x=102<;>simp[a1,h]
      clear a1;go_wp2;go_meet;exact⟨rfl,rfl⟩
    case rest =>
     obtain⟨rfl,rfl⟩:=hcut;obtain⟨w2,hw2⟩:∃w2,w2=wc:=⟨_,rfl⟩;subst hw2
     cases bU with
     | true =>
      have hU:=of_decide_eq_true BU.o;have wH:Hd (S=match (generalizing:=false) SU with | .error e=>.error e | .ok (n,j)=>.ok (j,addN ns up ⟨5,k,[],n,[],p⟩)):=(by show _=_;rw[qN.o,if_pos hU];try rfl);clear hU CL qN;go_upto_region 13 with fail
      go_cut [16] from 90 (fun v wx=>v=.int .i64 (ns.length:Nat)/\Tr wx B T (addN ns up ⟨5,k,[],0,[],p⟩) own now/\Rd wx R s i T/\Below B w wx)
      case first =>
       go_region_with (first|(go_at_call 196;refine(CA.o 5 _ (HT2.o.gb (kL w2))).mono ?_;rintro e w3 ⟨rfl,ht3,hf3⟩))
       all_goals (
        go_wp2_with fail;go_meet;exact⟨rfl,ht3,Rd.fr (w:=w2.drew) HR2.o hf3,(mQ HG2.o hB).trans (Below.trans (mQ (kL w2) (Nat.le_trans hB HG2.o.size)) hf3.bel)⟩)
      case rest =>
       obtain⟨rfl,ht3,hr3,hb3⟩:=hcut;have HT3:Hd (Tr wc B T (addN ns up ⟨5,k,[],0,[],p⟩) own now):=ht3;have HB3:Hd (Below B w wc):=hb3;have HR3:Hd (Rd wc R s i T):=hr3;clear ht3 hr3 hb3 r1 r2 k0 k1;go_wp2_with (go_at_call 198;refine(CT.o _ HB3.o HR3.o).mono ?_);rintro e w4 ⟨p1,p2,p3⟩;have HT4:Hd (Tr w4 B T (addN ns up ⟨5,k,[],0,[],p⟩) own now):=HT3.o.keepR HR3.o p3;have HB4:Hd (Below B w w4):=HB3.o.trans (jM p3 hR HT3.o.base);obtain⟨N,cc,t0,⟨cs,hN⟩,hBN,n2,n3,s2,s3⟩:=HT4.o.last;have HN:Hd (w4.heap[N]?=some (.cells cs 64 (0,0))):=hN;have hnf:w4.frozen? ⟨N,ns.length*6+3,none⟩=false:=Lib.frozen_of_heap hN _;have BR:Hd (∀t:Int,Tr (w4.setCell ⟨N,ns.length*6+3,none⟩ (.int .i64 t)) B T (addN ns up ⟨5,k,[],t,[],p⟩) own now):=s3;have hnl:ns.length<ns.length+1:=by omega
       cases SU with
       | error ec =>
        obtain⟨ec1,ec2⟩:=ec;obtain⟨v,rfl,hv,jj,hjj⟩:=p2 ec1 ec2 rfl;obtain⟨-,-,hrr,-⟩:=hjj.cells;have dS:Hd (aS w4 v E ec1 ec2):=hv;have az:Hd (S=.error (ec1,ec2)):=wH.o;clear p1 p2 p3 hv hN s2 s3 hjj;go_wp2;refine bodyPost_ret (results_tmp (t:=8) rfl _ _ _) rfl ?_;rw[az.o];exact⟨fun j ns hh=>(by cases hh),fun c p hh=>(by cases hh;exact⟨v,rfl,Ku dS.o HN.o⟩),vS HB4.o hBN _ _⟩
       | ok q =>
        obtain⟨tx,j⟩:=q;obtain⟨rfl,hr4⟩:=p1 tx j rfl;have HR4:Hd (Rd w4 R s j T):=hr4;obtain⟨-,-,hrr,-⟩:=hr4.cells;have az:Hd (S=.ok (j,addN ns up ⟨5,k,[],tx,[],p⟩)):=wH.o;clear p1 p2 p3 hr4 hN s2 s3;go_wp2;refine bodyPost_ret (results_tmp (t:=8) rfl _ _ _) rfl ?_;rw[az.o];exact⟨fun j ns hh=>(by cases hh;exact⟨rfl,HR4.o.node HN.o,BR.o tx⟩),fun c p hh=>(by cases hh),vS HB4.o hBN _ _⟩
     | false =>
      have hU:=of_decide_eq_false BU.o;have iT:Hd (S=if x=91 then(if d=8 then .error (4,i) else lst s.data.toList F (i+1) ns.length (d+1) (addN ns up ⟨1,k,[],0,[],p⟩)) else .error (2,i)):=(by show _=_;rw[qN.o,if_neg hU];try rfl);clear hU qN CT BU;have HB2:Hd (Below B w w2):=mQ HG2.o hB
      by_cases c91:x=91
      ·have e91:(x == 91)=true:=by simp[c91]
       by_cases d8:d=8
       ·have e8:((d:Int) == 8)=true:=by simp[d8]
        have az:Hd (S=.error (4,i)):=by show _=_;rw[iT.o,if_pos c91,if_pos d8]
        have hma:=zn.o w2 HB2.o;have LH:=CW.o;obtain⟨ty,hty⟩:=zN ((E 4).1);obtain⟨pv,hpv⟩:=zN ((E 4).2);rw[hty,hpv]at hma LH;have CW1:Hd (∀w,Calls prog 195 #[.iface ty pv,.int .i64 (i:Nat)] w fun e w'=>(∃v,e=.returned v/\aS w' v E 4 i)/\w.grownBy w' none):=LH;clear LH CW zn hty hpv c91 d8 CL iT;go_wp2;go_region_with (first|(go_at_call 195;refine(CW1.o _).mono ?_;rintro e w5 ⟨⟨v,rfl,hv⟩,hg5⟩))
        all_goals (
         go_wp2;refine bodyPost_ret (results_tmp (t:=8) rfl _ _ _) rfl ?_;rw[az.o];exact⟨fun j ns hh=>(by cases hh),fun c p hh=>(by cases hh;exact⟨v,rfl,hv⟩),HB2.o.trans ((mQ (kL w2) (Nat.le_trans hB HG2.o.size)).trans (mQ hg5 (Nat.le_trans hB HG2.o.size)))⟩)
       ·have e8:((d:Int) == 8)=false:=by rw[beq_eq_false_iff_ne];omega
        have az:Hd (S=lst s.data.toList F (i+1) ns.length (d+1) (addN ns up ⟨1,k,[],0,[],p⟩)):=by show _=_;rw[iT.o,if_pos c91,if_neg d8]
        have lN:=CL.o c91 d8;obtain⟨SL,Uh⟩:=zN (lst s.data.toList F (i+1) ns.length (d+1) (addN ns up ⟨1,k,[],0,[],p⟩));rw[Uh]at az lN;have zq:Hd (∀w',Below B w w'->Rd w' R s i T->Tr w' B T (addN ns up ⟨1,k,[],0,[],p⟩) own now->Calls prog 199 #[.pointer (some ⟨R,0,none⟩),.int .i64 (ns.length:Nat),.int .i64 ((d:Int)+1)] w' (qQ B R T s E own now SL w')):=lN;clear lN CL iT c91 d8 Uh;have iw:Hd (w2.grownBy w2.drew none):=kL w2;have Ui:Hd (Tr w2.drew B T ns own now):=HT2.o.gb iw.o;have dG:Hd (Rd w2.drew R s i T):=HR2.o;have yP:Hd (Below B w w2.drew):=HB2.o.trans (mQ iw.o (Nat.le_trans hB HG2.o.size));have yJ:Hd (Calls prog 196 #[.pointer (some ⟨T,0,none⟩),.int .i64 (up:Nat),.int .i64 1,.agg #[.string ⟨k.toArray⟩,.int .i64 (p:Nat)]] w2.drew fun e w'=>e=.returned (.int .i64 (ns.length:Nat))/\Hd (Tr w' B T (addN ns up ⟨1,k,[],0,[],p⟩) own now/\Rd w' R s i T/\Below B w w')):=(CA.o 1 _ Ui.o).mono fun e w' ⟨a,b,c⟩=>⟨a,b,dG.o.fr c,yP.o.trans c.bel⟩
        have CL3:Hd (∀w',Hd (Tr w' B T (addN ns up ⟨1,k,[],0,[],p⟩) own now/\Rd w' R s i T/\Below B w w')->Calls prog 199 #[.pointer (some ⟨R,0,none⟩),.int .i64 (ns.length:Nat),.int .i64 (IntKind.i64.wrap ((d:Int)+1))] w' fun e w''=>∃v,e=.returned v/\Hd (qQ B R T s E own now SL w (.returned v) w'')):=fun w' hh=>by
         have hwd:IntKind.i64.wrap ((d:Int)+1)=(d:Int)+1:=abq d hd;rw[hwd];exact(zq.o w' hh.o.2.2 hh.o.2.1 hh.o.1).mono fun e w'' hq=>abr hh.o.2.2 hq
        clear CA zq CN CD CH CW zn iw Ui dG yP HT2 HR2 HG2 HB2 ay lm mJ iL H1 C1;go_wp2;go_region_with (first|(go_at_call 196;refine yJ.o.mono ?_;rintro e w3 ⟨rfl,h3⟩)|(go_at_call 199;refine(CL3.o _ h3).mono ?_;rintro e w5 ⟨v,rfl,hv⟩))
        all_goals (
         go_wp2;refine bodyPost_ret (results_tmp (t:=8) rfl _ _ _) rfl ?_;rw[az.o];exact hv.o)
      ·have e91:(x == 91)=false:=by simp[c91]
       have az:Hd (S=.error (2,i)):=by show _=_;rw[iT.o,if_neg c91]
       clear c91 CL iT;go_wp2_with (go_at_call 156;refine(CH.o _ HB2.o HR2.o).mono ?_;rintro e w5 ⟨⟨v,rfl,hv⟩,hg5⟩);refine bodyPost_ret (results_tmp (t:=8) rfl _ _ _) rfl ?_;rw[az.o];exact⟨fun j ns hh=>(by cases hh),fun c p hh=>(by cases hh;exact⟨v,rfl,hv⟩),HB2.o.trans (mQ hg5 (Nat.le_trans hB HG2.o.size))⟩
theorem abv:BB 0:=by
 intro B R T s E own now i up k p d ns w _ _ _ _ _ _ _ _ _ _ _ _ _ _ hF;omega
theorem LJ:∀F:Nat,∀f,f<=F->BB f
 | 0,f,h=>by
  have:f=0:=by omega
  subst this;exact abv
 | F+1,f,h=>by
  by_cases he:f<=F
  ·exact LJ F f he
  ·have:f=F+1:=by omega
   subst this;exact abt F (abl F fun f hf=>LJ F f (by omega))
theorem abw(f:Nat):BB f:=LJ f f (Nat.le_refl _)
open Go.RowKit Go.Maps Go.WideMaps Go.Joins
def lU(B R T:Nat)(s:ByteArray)(E:Int->TypeId × Value)(r:Rs Sd)(w:World)(e:Ending)(w':World):Prop :=
 (∀d,r=.ok d->e=.returned .nilIface/\Rd w' R s d.i T/\Tr w' B T d.ns d.own d.now)/\(∀c p,r=.error (c,p)->∃F,e=.returned (.iface 130 (.pointer (some ⟨F,0,none⟩)))/\aS w' (.iface 130 (.pointer (some ⟨F,0,none⟩))) E c p)/\Below B w w'
def GI(own:List Nat)(now:Nat):Rs (Nat × List Tn)->Rs Sd
 | .error e=>.error e
 | .ok (j,ns)=>.ok ⟨j,ns,own,now⟩
theorem LK(l:List UInt8)(i:Nat)(ns:List Tn)(own:List Nat)(now:Nat):rdPair l ⟨i,ns,own,now⟩ =
  match bW l i with
  | .error e=>.error e
  | .ok (k,j)=>match must l (bl l j) 61 with
   | .error e=>.error e
   | .ok j1=>match ah ns now k with
    | some _=>.error (5,i)
    | none=>GI own now (val l (2*l.length+2) (bl l j1) now k i 0 ns):=by
 unfold rdPair
 cases bW l i with
 | error e=>rfl
 | ok q =>
  obtain⟨k,j⟩:=q;simp only[]
  cases must l (bl l j) 61 with
  | error e=>rfl
  | ok j1 =>
   simp only[]
   cases ah ns now k with
   | some q=>rfl
   | none =>
    simp only[]
    cases val l (2*l.length+2) (bl l j1) now k i 0 ns with
    | error e=>rfl
    | ok q=>rfl
theorem abx{B R T:Nat}{s:ByteArray}{E:Int->TypeId × Value}{own:List Nat}{now:Nat}{v:Rs (Nat × List Tn)}{w w' w'':World}{e:Ending}(hb:Below B w w')(h:qQ B R T s E own now v w' e w''):∃u,e=.returned u/\Hd (lU B R T s E (GI own now v) w (.returned u) w''):=by
 cases v with
 | error ec =>
  obtain⟨c,p⟩:=ec;obtain⟨u,rfl,F,rfl,hF⟩:=h.2.1 c p rfl;exact⟨_,rfl,fun d hh=>(by cases hh),fun c p hh=>(by cases hh;exact⟨F,rfl,F,rfl,hF⟩),hb.trans h.2.2⟩
 | ok q =>
  obtain⟨j,ns⟩:=q;obtain⟨rfl,h1,h2⟩:=h.1 j ns rfl;exact⟨_,rfl,fun d hh=>(by cases hh;exact⟨rfl,h1,h2⟩),fun c p hh=>(by cases hh),hb.trans h.2.2⟩
theorem aby(B R T:Nat)(s:ByteArray)(E:Int->TypeId × Value)(own:List Nat)(now i:Nat)(ns:List Tn)(w:World)(h:Rd w R s i T)(htr:Tr w B T ns own now)(G:Gl w B E)(hR:B<=R)(hi:i<=s.size)(hs:s.size<=100000)(J:Jt ns own now)(hsz:ns.length+own.length+(s.size-i)<=700000) :
  Calls prog 107 #[.pointer (some ⟨R,0,none⟩)] w (lU B R T s E (rdPair s.data.toList ⟨i,ns,own,now⟩) w):=by
 have hl:s.data.toList.length=s.size:=by simp
 have hB:B<=w.heap.size:=htr.base;have CK:Hd (Calls prog 152 #[.pointer (some ⟨R,0,none⟩)] w (FV R s T E i (bW s.data.toList i) w)):=RG R s i T B E w h hi (by omega) G hR hB;have CS:Hd (∀k w,Rd w R s k T->k<=s.size->Calls prog 103 #[.pointer (some ⟨R,0,none⟩)] w fun e w'=>e=.returned (.tuple #[])/\Rd w' R s (bl s.data.toList k) T/\w.grownBy w' (some R)):=fun k w h1 h2=>Eu R s k T w h1 h2 (by omega)
 have CT:Hd (∀k w',Rd w' R s k T->w.grownBy w' (some R)->k<=s.size->Calls prog 109 #[.pointer (some ⟨R,0,none⟩),.int .i64 61] w' fun e w''=>(∃v,e=.returned v/\Hd ((∀q,must s.data.toList k 61=.ok q->v=.nilIface/\Rd w'' R s q T)/\(∀c p,must s.data.toList k 61=.error (c,p)->∃F,v=.iface 130 (.pointer (some ⟨F,0,none⟩))/\aS w'' v E c p)))/\w'.grownBy w'' (some R)):=fun k w' h1 hg hk =>
  (IP R s k T 61 (E 2).1 (E 2).2 w' h1 hk (by omega) (by decide) (G.gb hg hR hB).es.te).mono fun e w'' ⟨a1,a2,a3⟩=>by
   unfold must
   by_cases hx:nx s.data.toList k=61
   ·rw[if_pos hx];exact⟨⟨_,(a1 hx).1,fun q hq=>(by cases hq;exact⟨rfl,(a1 hx).2⟩),fun c p hp=>(by cases hp)⟩,a3⟩
   ·rw[if_neg hx];obtain⟨⟨v,e1,F,rfl,hF⟩,-⟩:=a2 hx;exact⟨⟨_,e1,fun q hq=>(by cases hq),fun c p hp=>(by cases hp;exact⟨F,rfl,F,rfl,hF⟩)⟩,a3⟩
 have CF:Hd (∀(k:List UInt8) w',k.length<=1048576->w.grownBy w' (some R)->Calls prog 153 #[.pointer (some ⟨T,0,none⟩),.agg #[.string ⟨k.toArray⟩,.int .i64 (i:Nat)]] w' fun e w''=>(∃v,e=.returned v/\Hd ((ah ns now k=none->v=.nilIface)/\(∀q,ah ns now k=some q->∃F,v=.iface 130 (.pointer (some ⟨F,0,none⟩))/\aS w'' v E 5 i)))/\w'.grownBy w'' none):=fun k w' hk hg =>
  (YY B T ns own now E k i w' (htr.keepR h hg) J.kd (by have:=J.lt;omega) hk (G.gb hg hR hB).es).mono fun e w'' ⟨a1,a2,a3⟩=>by
   cases hq:ah ns now k with
   | none=>exact⟨⟨_,a1 hq,fun _=>rfl,fun q hh=>(by cases hh)⟩,a3⟩
   | some q =>
    obtain⟨v,e1,F,rfl,hF⟩:=a2 q hq;exact⟨⟨_,e1,fun hh=>(by cases hh),fun q hh=>⟨F,rfl,F,rfl,hF⟩⟩,a3⟩
 have CV:Hd (∀(k:List UInt8) j w',k.length<=1048576->j<=s.size->i<=j->ah ns now k=none->w.grownBy w' (some R)->Rd w' R s j T->Calls prog 154 #[.pointer (some ⟨R,0,none⟩),.int .i64 (now:Nat),.agg #[.string ⟨k.toArray⟩,.int .i64 (i:Nat)],.int .i64 0] w' fun e w''=>∃u,e=.returned u/\Hd (lU B R T s E (GI own now (val s.data.toList (2*s.data.toList.length+2) j now k i 0 ns)) w (.returned u) w'')):=fun k j w' hk hj hij hq hg hr =>
  (abw (2*s.data.toList.length+2) B R T s E own now j now k i 0 ns w' hr (htr.keepR h hg) (G.gb hg hR hB) hR hj hs J.wf J.wt J.lt (by rw[J.kd];decide) (fun _=>hq) hk (by omega) (by omega) (by omega)).mono fun e w'' hv=>abx (jM hg hR hB) hv
 have jD:Hd (∀x j,bW s.data.toList i=.ok (x,j)->i<j/\j<=s.size/\x.length<=1048576):=fun x j a=>by
  have:=uZ s.data.toList i x j (by omega) a;omega
 have fP:Hd (∀k,k<=s.size->k<=bl s.data.toList k/\bl s.data.toList k<=s.size):=fun k hk=>by rw[<-hl];exact jA _ k (by omega)
 have oI:Hd (∀k q,must s.data.toList k 61=.ok q->q=k+1/\k<s.size):=fun k q a=>by
  unfold must at a;split at a
  ·rename_i hx;have:=bu (l:=s.data.toList) (i:=k) (by rw[hx];decide)
   cases a
   omega
  ·cases a
 have lV:=LK s.data.toList i ns own now;obtain⟨S,hS⟩:=zN (rdPair s.data.toList ⟨i,ns,own,now⟩);rw[hS]at lV ⊢;obtain⟨KR,kz⟩:=zN (bW s.data.toList i);rw[kz]at lV CK jD;have HP:Hd (S=_):=lV;have mJ:Hd (Tr w B T ns own now):=htr;have H0:Hd (Rd w R s i T):=h;clear lV hS kz h htr G J;go_enter func107,ntmps107;go_wp2_with (go_at_call 152;refine CK.o.mono ?_);rintro e w1 ⟨p1,p2,p3⟩
 cases KR with
 | error ec =>
  obtain⟨ec1,ec2⟩:=ec;obtain⟨ka,kb,v,rfl,F,rfl,hF⟩:=p2 ec1 ec2 rfl;have dS:Hd (aS w1 (.iface 130 (.pointer (some ⟨F,0,none⟩))) E ec1 ec2):=⟨F,rfl,hF⟩;have az:Hd (S=.error (ec1,ec2)):=HP.o;have HBA:Hd (Below B w (w1.alloc (.cells #[.string ka,.int .i64 kb] 213))):=jM (aF p3 (World.grownBy_alloc _ _ none)) hR hB;have bH:Hd (aS (w1.alloc (.cells #[.string ka,.int .i64 kb] 213)) (.iface 130 (.pointer (some ⟨F,0,none⟩))) E ec1 ec2):=FaultV.grow dS.o (World.grownBy_alloc _ _ none);clear p1 p2 p3 hF;go_wp2;refine bodyPost_ret (results_tmp (t:=2) rfl _ _ _) rfl ?_;rw[az.o];exact⟨fun d hh=>(by cases hh),fun c p hh=>(by cases hh;exact⟨F,rfl,bH.o⟩),HBA.o⟩
 | ok q =>
  obtain⟨k,j⟩:=q;obtain⟨rfl,hr1⟩:=p1 k j rfl;obtain⟨k1,k2,k3⟩:=jD.o k j rfl;have HP2:=HP.o
  try simp only[]at HP2
  have hgA:=aF p3 (World.grownBy_alloc w1 (.cells #[.string ⟨k.toArray⟩,.int .i64 (i:Nat)] 213) none);have GK:Rd (w1.alloc (.cells #[.string ⟨k.toArray⟩,.int .i64 (i:Nat)] 213)) R s j T:=hr1.grow (World.grownBy_alloc _ _ none);have GL:=heap_alloc_new w1 (.cells #[.string ⟨k.toArray⟩,.int .i64 (i:Nat)] 213);obtain⟨K,hK⟩:=zN (w1.heap.size);rw[hK]at GL;obtain⟨w2,hw2⟩:=zN (w1.alloc (.cells #[.string ⟨k.toArray⟩,.int .i64 (i:Nat)] 213));rw[hw2]at hgA GK GL;have HG2:Hd (w.grownBy w2 (some R)):=hgA;have HR2:Hd (Rd w2 R s j T):=GK;have iL:Hd (w2.heap[K]?=some (.cells #[.string ⟨k.toArray⟩,.int .i64 (i:Nat)] 213 (0,0))):=GL;have C3:=CS.o j w2 GK k2;obtain⟨b1,b2⟩:=fP.o j k2;obtain⟨j3,hj3⟩:=zN (bl s.data.toList j);rw[hj3]at C3 b1 b2 HP2;have LM:Hd (Calls prog 103 #[.pointer (some ⟨R,0,none⟩)] w2 fun e w'=>e=.returned (.tuple #[])/\Rd w' R s j3 T/\w2.grownBy w' (some R)):=C3
  have uq:=CT.o j3;have lW:=oI.o j3;obtain⟨MU,lu⟩:=zN (must s.data.toList j3 61);rw[lu]at uq lW HP2;have GM:Hd (∀w',Rd w' R s j3 T->w.grownBy w' (some R)->j3<=s.size->Calls prog 109 #[.pointer (some ⟨R,0,none⟩),.int .i64 61] w' fun e w''=>(∃v,e=.returned v/\Hd ((∀q,MU=.ok q->v=.nilIface/\Rd w'' R s q T)/\(∀c p,MU=.error (c,p)->∃F,v=.iface 130 (.pointer (some ⟨F,0,none⟩))/\aS w'' v E c p)))/\w'.grownBy w'' (some R)):=uq;have abz:Hd (∀q,MU=.ok q->q=j3+1/\j3<s.size):=lW;have qU:Hd (S=_):=HP2;clear p1 p2 p3 hr1 hgA GK GL hj3 C3 uq lW lu HP2 HP jD;go_wp2_with (go_at_call 103;refine LM.o.mono ?_);rintro e w3 ⟨rfl,hr3,hg3⟩;have HR3:Hd (Rd w3 R s j3 T):=hr3;have aO:Hd (w.grownBy w3 (some R)):=dH HG2.o hg3;have jE:Hd (w3.heap[K]?=some (.cells #[.string ⟨k.toArray⟩,.int .i64 (i:Nat)] 213 (0,0))):=(hg3.block K (aA iL.o) (by simp only[ne_eq,Option.some.injEq];exact aP iL.o HR2.o (by decide))).trans iL.o
  clear hr3 hg3;go_wp2_with (go_at_call 109;refine(GM.o _ HR3.o aO.o b2).mono ?_);rintro e w4 ⟨⟨v,rfl,hv⟩,hg4⟩;have dQ:Hd (w.grownBy w4 (some R)):=dH aO.o hg4;have mW:Hd (w4.heap[K]?=some (.cells #[.string ⟨k.toArray⟩,.int .i64 (i:Nat)] 213 (0,0))):=(hg4.block K (aA jE.o) (by simp only[ne_eq,Option.some.injEq];exact aP jE.o HR3.o (by decide))).trans jE.o;clear hg4
  cases MU with
  | error ec =>
   obtain⟨ec1,ec2⟩:=ec;obtain⟨F,rfl,hF⟩:=hv.o.2 ec1 ec2 rfl;have dS:Hd (aS w4 (.iface 130 (.pointer (some ⟨F,0,none⟩))) E ec1 ec2):=hF;have az:Hd (S=.error (ec1,ec2)):=qU.o;clear hv hF;go_wp2;refine bodyPost_ret (results_tmp (t:=2) rfl _ _ _) rfl ?_;rw[az.o];exact⟨fun d hh=>(by cases hh),fun c p hh=>(by cases hh;exact⟨F,rfl,dS.o⟩),jM dQ.o hR hB⟩
  | ok j4 =>
   obtain⟨rfl,hr4⟩:=hv.o.1 j4 rfl;obtain⟨m1,m2⟩:=abz.o j4 rfl;have HR4:Hd (Rd w4 R s j4 T):=hr4;have ut:=qU.o
   try simp only[]at ut
   have GN:Hd (S=_):=ut;have LP:=CF.o k;have LQ:=CV.o k;obtain⟨KO,Uj⟩:=zN (ah ns now k);rw[Uj]at LP LQ GN;have abA:Hd (∀w',k.length<=1048576->w.grownBy w' (some R)->Calls prog 153 #[.pointer (some ⟨T,0,none⟩),.agg #[.string ⟨k.toArray⟩,.int .i64 (i:Nat)]] w' fun e w''=>(∃v,e=.returned v/\Hd ((KO=none->v=.nilIface)/\(∀q,KO=some q->∃F,v=.iface 130 (.pointer (some ⟨F,0,none⟩))/\aS w'' v E 5 i)))/\w'.grownBy w'' none):=LP;have Uk:Hd (∀j w',k.length<=1048576->j<=s.size->i<=j->KO=none->w.grownBy w' (some R)->Rd w' R s j T->Calls prog 154 #[.pointer (some ⟨R,0,none⟩),.int .i64 (now:Nat),.agg #[.string ⟨k.toArray⟩,.int .i64 (i:Nat)],.int .i64 0] w' fun e w''=>∃u,e=.returned u/\Hd (lU B R T s E (GI own now (val s.data.toList (2*s.data.toList.length+2) j now k i 0 ns)) w (.returned u) w'')):=LQ;obtain⟨-,-,r2,-⟩:=hr4.cells;obtain⟨q0,q1,-⟩:=gW mW.o
   clear hv hr4 qU ut LP LQ CF CV Uj;go_upto_region 8 with fail
   go_cut [6] from 22 (fun v6 wx=>Hd ((KO=none->v6=.nilIface)/\(∀q,KO=some q->∃F,v6=.iface 130 (.pointer (some ⟨F,0,none⟩))/\aS wx v6 E 5 i))/\w4.grownBy wx none)
   case first =>
    go_region_with (first|(go_at_call 153;refine(abA.o _ k3 (aF dQ.o (kL w4))).mono ?_;rintro e w5 ⟨⟨v,rfl,hv⟩,hg5⟩))
    all_goals (
     go_wp2_with fail;go_meet;exact⟨hv,ai (kL w4) hg5⟩)
   case rest =>
    obtain⟨hv,hgc⟩:=hcut;have gQ:Hd (w.grownBy wc (some R)):=aF dQ.o hgc;have ou:Hd (Rd wc R s j4 T):=HR4.o.grow hgc;have uu:Hd (wc.heap[K]?=some (.cells #[.string ⟨k.toArray⟩,.int .i64 (i:Nat)] 213 (0,0))):=jf mW.o hgc;clear hgc r2 q0 q1
    cases KO with
    | some q =>
     obtain⟨F,rfl,hF⟩:=hv.o.2 q rfl;have dS:Hd (aS wc (.iface 130 (.pointer (some ⟨F,0,none⟩))) E 5 i):=hF;have az:Hd (S=.error (5,i)):=GN.o;clear hv hF;go_wp2;refine bodyPost_ret (results_tmp (t:=2) rfl _ _ _) rfl ?_;rw[az.o];exact⟨fun d hh=>(by cases hh),fun c p hh=>(by cases hh;exact⟨F,rfl,dS.o⟩),jM gQ.o hR hB⟩
    | none =>
     obtain rfl:=hv.o.1 rfl;have Ul:j4<=s.size:=by omega
     have C6:=CS.o j4 wc ou.o Ul;obtain⟨b3,b4⟩:=fP.o j4 Ul;have zt:=GN.o
     try simp only[]at zt
     obtain⟨j6,Um⟩:=zN (bl s.data.toList j4);rw[Um]at C6 b3 b4 zt;have LU:Hd (Calls prog 103 #[.pointer (some ⟨R,0,none⟩)] wc fun e w'=>e=.returned (.tuple #[])/\Rd w' R s j6 T/\wc.grownBy w' (some R)):=C6;have CV6:Hd (∀w',w.grownBy w' (some R)->Rd w' R s j6 T->Calls prog 154 #[.pointer (some ⟨R,0,none⟩),.int .i64 (now:Nat),.agg #[.string ⟨k.toArray⟩,.int .i64 (i:Nat)],.int .i64 0] w' fun e w''=>∃u,e=.returned u/\Hd (lU B R T s E S w (.returned u) w'')):=fun w' a b=>by rw[zt];exact Uk.o j6 w' k3 b4 (by omega) rfl a b
     clear hv Um C6 zt Uk GN;go_wp2_with (go_at_call 103;refine LU.o.mono ?_);rintro e w6 rfl hr6 eu;have lK:Hd (w.grownBy w6 (some R)):=dH gQ.o eu;have nD:Hd (Rd w6 R s j6 T):=hr6;have hk6:=(eu.block K (aA uu.o) (by simp only[ne_eq,Option.some.injEq];exact aP uu.o ou.o (by decide))).trans uu.o;obtain⟨q0,q1,-⟩:=gW hk6;obtain⟨-,-,r2,-⟩:=hr6.cells;obtain⟨t2,-⟩:=(mJ.o.keepR H0.o lK.o).two;clear hr6 eu hk6;go_wp2;go_region_with (first|(go_at_call 154;refine(CV6.o _ (aF lK.o (kL w6)) nD.o).mono ?_;rintro e w7 ⟨u,rfl,hu⟩))
     all_goals (
      go_wp2;refine bodyPost_ret (results_tmp (t:=2) rfl _ _ _) rfl ?_;exact hu.o)
end Go.Proofs.YtnnbgjaphfhibaaGreatDoor
