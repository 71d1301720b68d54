import Derived.Test.YtnnbgjaphfhibaaGreatDoorM21
import Derived.Test.YtnnbgjaphfhibaaGreatDoorM17
import Derived.Test.YtnnbgjaphfhibaaGreatDoorM07
import Derived.Test.YtnnbgjaphfhibaaGreatDoorM19
import Derived.Test.YtnnbgjaphfhibaaGreatDoorM08
import Derived.LaidEql
import Derived.Stop.Asserts
import Derived.RowKitTokens
set_option linter.unusedVariables false
set_option linter.unusedSimpArgs false
set_option maxRecDepth 100000
set_option maxHeartbeats 6400000
open Go.Proofs.Tryz
namespace Go.Proofs.YtnnbgjaphfhibaaGreatDoor
open Go.RowKit Go.Maps Go.WideMaps Go.Joins
def U7(B P R:Nat)(s:ByteArray)(now de i:Nat)(ns:List Tn)(own:List Nat)(g:Rs (List UInt8 × Nat))(w:World)(e:Ending)(w':World):Prop:=(∀t j,g=.ok (t,j)->e=.returned (.tuple #[.string ⟨t.toArray⟩,.int .i64 (i:Nat)])/\Dt w' B P R s now de (.ok j) ns own)/\(∀c,g=.error c->∃t:List UInt8,e=.returned (.tuple #[.string ⟨t.toArray⟩,.int .i64 (i:Nat)])/\Dt w' B P R s now de (.error c) ns own)/\DFr B P w w'
theorem acI(B P R:Nat)(s:ByteArray)(now de i:Nat)(ns:List Tn)(own:List Nat)(w:World)(h:Dt w B P R s now de (.ok i) ns own)(hs:s.size<=100000) :
  Calls prog 79 #[.pointer (some ⟨R,0,none⟩)] w (U7 B P R s now de i ns own (bY s.data.toList i) w):=by
 obtain⟨h1,h2,N,c,O,oc,xs,ks,h3,h4,h5,h6⟩:=h;refine(Ru R s _ _ now de i w h6.2 h6.1 (by omega)).mono ?_;rintro e w' ⟨a1,a2,a3⟩;refine⟨fun t j hg=>?_,fun c hg=>?_,ry h6 h1 h2 h5.hP a3⟩
 ·obtain⟨b1,b2⟩:=a1 t j hg;exact⟨b1,h1,h2,N,_,O,oc,xs,ks,h3,h4,h5.keepR h6.2 a3,b2⟩
 ·obtain⟨⟨t,-,b1⟩,b2⟩:=a2 c.1 c.2 hg;exact⟨t,b1,h1,h2,N,_,O,oc,xs,ks,h3,h4,h5.keepR h6.2 a3,b2⟩
def sW(B P R:Nat)(s:ByteArray)(now:Nat)(own:List Nat)(g:Rs Sd)(w:World)(e:Ending)(w':World):Prop:=e=.returned (.tuple #[])/\(∀d,g=.ok d->Dt w' B P R s d.now 0 (.ok d.i) d.ns d.own)/\(∀c,g=.error c->∃now',Fq w' B P R s now' 0 c)/\DFr B P w w'
def Il(own:List Nat)(now:Nat):Rs (Nat × List Tn)->Rs Sd
 | .error e=>.error e
 | .ok (j,ns)=>.ok ⟨j,ns,own,now⟩
theorem acJ(l:List UInt8)(d:Sd)(c:Int × Nat)(h:bY l d.i=.error c):rdPair l d=.error c:=by unfold rdPair;rw[h]
theorem acK(l:List UInt8)(d:Sd)(k:List UInt8)(j:Nat)(c:Int × Nat)(h:bY l d.i=.ok (k,j))(h2:must l (bl l j) 61=.error c):rdPair l d=.error c:=by unfold rdPair;rw[h];simp only[h2]
theorem acL(l:List UInt8)(d:Sd)(k:List UInt8)(j j1 q:Nat)(h:bY l d.i=.ok (k,j))(h2:must l (bl l j) 61=.ok j1)(h3:ai d.ns d.now k=some q):rdPair l d=.error (5,d.i):=by unfold rdPair;rw[h];simp only[h2,h3]
theorem acM(l:List UInt8)(d:Sd)(k:List UInt8)(j j1:Nat)(h:bY l d.i=.ok (k,j))(h2:must l (bl l j) 61=.ok j1)(h3:ai d.ns d.now k=none):rdPair l d=Il d.own d.now (val l (2*l.length+2) (bl l j1) d.now k d.i 0 d.ns):=by
 unfold rdPair;rw[h];simp only[h2,h3]
 cases val l (2*l.length+2) (bl l j1) d.now k d.i 0 d.ns<;>rfl
theorem Fq.now{w:World}{B P R:Nat}{s:ByteArray}{now de:Nat}{e:Int × Nat}(h:Fq w B P R s now de e):w.cell? ⟨R,4,none⟩=some (.int .i64 (now:Nat))/\w.cell? ⟨R,5,none⟩=some (.int .i64 e.1)/\(e.1 == 0)=false:=by
 obtain⟨L,O,⟨h1,j,h2,h3⟩,-⟩:=h;exact⟨h3.cells.2.2.2.2.1,h3.cells.2.2.2.2.2.1,by simpa using h1⟩
theorem Fq.drew{w:World}{B P R:Nat}{s:ByteArray}{now de:Nat}{c:Int × Nat}(h:Fq w B P R s now de c)(n:Nat):Fq (w.drewN n) B P R s now de c/\DFr B P w (w.drewN n):=by
 obtain⟨L,O,h1,h4,h5,h6⟩:=h;obtain⟨i,er,p,hd⟩:=h1.dd;have g:w.grownBy (w.drewN n) none:=aj (ax w none) n;exact⟨⟨L,O,h1.grow g,h4,h5,h6⟩,DFr.gb g (Nat.le_of_lt (Nat.lt_of_le_of_lt h4 (aB hd))) h6⟩
theorem acN(B P R:Nat)(s:ByteArray)(now i:Nat)(ns:List Tn)(own:List Nat)(w:World)(h:Dt w B P R s now 0 (.ok i) ns own)(W:WF ns own)(V:WT ns)(U8:now<ns.length)(hk2:¬ak ns now=2)(hsz:ns.length+(s.size-i)<=700000)(hs:s.size<=100000) :
  Calls prog 54 #[.pointer (some ⟨R,0,none⟩)] w (sW B P R s now own (rdPair s.data.toList ⟨i,ns,own,now⟩) w):=by
 have hl:s.data.toList.length=s.size:=by simp
 have CK:Hd (Calls prog 79 #[.pointer (some ⟨R,0,none⟩)] w (U7 B P R s now 0 i ns own (bY s.data.toList i) w)):=acI B P R s now 0 i ns own w h hs;have CB:Hd (∀(q:Rs Nat) w,Dq w B P R s now 0 q ns own->Calls prog 51 #[.pointer (some ⟨R,0,none⟩)] w fun e w'=>e=.returned (.tuple #[])/\Dq w' B P R s now 0 (q.bind fun i=>.ok (bl s.data.toList i)) ns own/\DFr B P w w'):=fun q w h=>UO B P R s now 0 ns own q w h hs
 have CM:Hd (∀(q:Rs Nat) w,Dq w B P R s now 0 q ns own->Calls prog 56 #[.pointer (some ⟨R,0,none⟩),.int .u8 61] w fun e w'=>e=.returned (.tuple #[])/\Dq w' B P R s now 0 (q.bind fun i=>must s.data.toList i 61) ns own/\DFr B P w w'):=fun q w h=>ND B P R s now 0 ns own q w h hs 61 (by decide)
 have NL:Hd (∀(c:Int × Nat) (k:List UInt8) w,Fq w B P R s now 0 c->Calls prog 83 #[.pointer (some ⟨R,0,none⟩),.int .i64 (now:Nat),.string ⟨k.toArray⟩,.int .i64 (i:Nat)] w fun e w'=>e=.returned (.tuple #[])/\Fq w' B P R s now 0 c/\DFr B P w w'):=fun c k w h=>acp B P R s now 0 c now k i w h hs
 have jR:Hd (∀k j,bY s.data.toList i=.ok (k,j)->i<=j/\j<=s.size):=fun k j hh=>by
  have hi:=h.cells.2.2.2.2.2.1;have:=ww s.data.toList i k j (by omega) hh;omega
 obtain⟨G,hG⟩:=zN (rdPair s.data.toList ⟨i,ns,own,now⟩);have Io:Hd (∀c,bY s.data.toList i=.error c->G=.error c):=fun c hh=>by show G=_;rw[<-hG];exact acJ _ _ c hh
 have DY:Hd (∀k j c,bY s.data.toList i=.ok (k,j)->must s.data.toList (bl s.data.toList j) 61=.error c->G=.error c):=fun k j c h1 h2=>by show G=_;rw[<-hG];exact acK _ _ k j c h1 h2
 have mM:Hd (∀k j j1 q,bY s.data.toList i=.ok (k,j)->must s.data.toList (bl s.data.toList j) 61=.ok j1->ai ns now k=some q->G=.error (5,i)):=fun k j j1 q h1 h2 h3=>by show G=_;rw[<-hG];exact acL _ _ k j j1 q h1 h2 h3
 have DZ:Hd (∀k j j1,bY s.data.toList i=.ok (k,j)->must s.data.toList (bl s.data.toList j) 61=.ok j1->ai ns now k=none->G=Il own now (val s.data.toList (2*s.data.toList.length+2) (bl s.data.toList j1) now k i 0 ns)):=fun k j j1 h1 h2 h3=>by show G=_;rw[<-hG];exact acM _ _ k j j1 h1 h2 h3
 rw[hG];obtain⟨K,hK⟩:=zN (bY s.data.toList i);rw[hK]at CK Io DY mM DZ jR;have zX:Hd (WF ns own/\WT ns/\now<ns.length/\¬ak ns now=2):=⟨W,V,U8,hk2⟩
 -- the tail behind a fault
 clear h hG hK W V U8 hk2;go_enter func54,ntmps54;go_wp2_with (go_at_call 79;refine CK.o.mono ?_);rintro e w1 ⟨h1,h2,hf1⟩;have jF:Hd (DFr B P w w1):=hf1;clear hf1
 match K,h1,h2,Io,DY,mM,DZ,jR with
 | .error c,_,h2,Io,_,_,_,_ =>
  obtain⟨t,rfl,hd1⟩:=h2 c rfl;have aA:Hd (G=.error c):=Io.o c rfl;have HD1:Hd (Dq w1 B P R s now 0 (.error c) ns own):=hd1.fq;clear h1 h2 hd1;go_wp2_with (first|(go_at_call 51;refine(CB.o (.error c) _ HD1.o).mono ?_;rintro e w2 ⟨rfl,hd2,hf2⟩)|(go_at_call 56;refine(CM.o (.error c) _ hd2).mono ?_));rintro e w3 ⟨rfl,hd3,hf3⟩;have HD3:Hd (Fq w3 B P R s now 0 c):=hd3;have HF3:Hd (DFr B P w w3):=(jF.o.two hf2).two hf3;clear hd2 hf2 hd3 hf3;obtain⟨a4,a5,a6⟩:=HD3.o.now;go_wp2;go_quiet (fail);have aF:=HD3.o.drew nq;have dG:Hd (Dq (w3.drewN nq) B P R s now 0 (.error c) ns own):=aF.1;have bK:Hd (DFr B P w (w3.drewN nq)):=HF3.o.two aF.2;obtain⟨wA,hwA⟩:∃W,w3.drewN nq=W:=⟨_,rfl⟩;rw[hwA]at dG bK ⊢;clear hwA aF a4 a5 a6;go_wp2_with (go_at_call 51;refine(CB.o (.error c) _ dG.o).mono ?_);rintro e w4 ⟨rfl,hd4,hf4⟩;have HD4:Hd (Fq w4 B P R s now 0 c):=hd4
  have DU:Hd (DFr B P w w4):=bK.o.two hf4;obtain⟨b4,-,-⟩:=HD4.o.now;clear hd4 hf4;go_wp2_with (go_at_call 83;refine(NL.o c t _ HD4.o).mono ?_;rintro e w5 ⟨rfl,hd5,hf5⟩);refine bodyPost_end (results_none rfl _ _ _) rfl ?_;rw[aA.o];exact⟨rfl,fun d hh=>(by cases hh),fun c' hh=>(by injection hh with hh;subst hh;exact⟨now,hd5⟩),DU.o.two hf5⟩
 | .ok (k,j),h1,_,_,DY,mM,DZ,jR =>
  obtain⟨rfl,hd1⟩:=h1 k j rfl;have HD1:Hd (Dq w1 B P R s now 0 (.ok j) ns own):=hd1;obtain⟨hij,hjs⟩:=jR.o k j rfl;have hbj:=jP s.data.toList j (by omega);clear h1 hd1;go_wp2_with (first|(go_at_call 51;refine(CB.o (.ok j) _ HD1.o).mono ?_;rintro e w2 ⟨rfl,hd2,hf2⟩)|(go_at_call 56;refine(CM.o (.ok (bl s.data.toList j)) _ hd2).mono ?_));rintro e w3 ⟨rfl,hd3,hf3⟩;have HF3:Hd (DFr B P w w3):=(jF.o.two hf2).two hf3;have xk:Hd (Dq w3 B P R s now 0 (must s.data.toList (bl s.data.toList j) 61) ns own):=hd3;have Ip:Hd (∀j1,must s.data.toList (bl s.data.toList j) 61=.ok j1->j<=j1/\j1<=s.size):=fun j1 hh=>by
   unfold must at hh;split at hh
   ·rename_i hx;have:=bH (l:=s.data.toList) (i:=bl s.data.toList j) (by omega);injection hh with hh
    omega
   ·cases hh
  obtain⟨q3,hq3⟩:=zN (must s.data.toList (bl s.data.toList j) 61);have NM:Hd (∀c,q3=.error c->G=.error c):=fun c hh=>DY.o k j c rfl (hq3.trans hh)
  have NP:Hd (∀j1 q,q3=.ok j1->ai ns now k=some q->G=.error (5,i)):=fun j1 q hh h3=>mM.o k j j1 q rfl (hq3.trans hh) h3
  have NQ:Hd (∀j1,q3=.ok j1->ai ns now k=none->G=Il own now (val s.data.toList (2*s.data.toList.length+2) (bl s.data.toList j1) now k i 0 ns)):=fun j1 hh h3=>DZ.o k j j1 rfl (hq3.trans hh) h3
  rw[hq3]at xk Ip;clear hd2 hf2 hd3 hf3 hq3 hbj DY mM DZ
  match q3,xk,Ip,NM,NP,NQ with
  | .error c,xk,_,NM,_,_ =>
   have aA:Hd (G=.error c):=NM.o c rfl;have HD3:Hd (Fq w3 B P R s now 0 c):=xk.o;obtain⟨a4,a5,a6⟩:=HD3.o.now;go_wp2;go_quiet (fail);have aF:=HD3.o.drew nq;have dG:Hd (Dq (w3.drewN nq) B P R s now 0 (.error c) ns own):=aF.1;have bK:Hd (DFr B P w (w3.drewN nq)):=HF3.o.two aF.2;obtain⟨wA,hwA⟩:∃W,w3.drewN nq=W:=⟨_,rfl⟩;rw[hwA]at dG bK ⊢;clear hwA aF a4 a5 a6;go_wp2_with (go_at_call 51;refine(CB.o (.error c) _ dG.o).mono ?_);rintro e w4 ⟨rfl,hd4,hf4⟩;have HD4:Hd (Fq w4 B P R s now 0 c):=hd4;have DU:Hd (DFr B P w w4):=bK.o.two hf4;obtain⟨b4,-,-⟩:=HD4.o.now;clear hd4 hf4;go_wp2_with (go_at_call 83;refine(NL.o c k _ HD4.o).mono ?_;rintro e w5 ⟨rfl,hd5,hf5⟩);refine bodyPost_end (results_none rfl _ _ _) rfl ?_;rw[aA.o];exact⟨rfl,fun d hh=>(by cases hh),fun c' hh=>(by injection hh with hh;subst hh;exact⟨now,hd5⟩),DU.o.two hf5⟩
  | .ok j1,xk,Ip,_,NP,NQ =>
   have HD3:Hd (Dt w3 B P R s now 0 (.ok j1) ns own):=xk.o;obtain⟨hj1,acO⟩:=Ip.o j1 rfl;obtain⟨x1,x2,N,cc,O,oc,xs,ks,x3,x4,x5,x6⟩:=HD3.o;obtain⟨-,-,c2,-,c4,c5,-,-,-⟩:=x6.2.cells;have D5:Hd (∀n,Calls prog 14 #[.slice (some ⟨N,0,none⟩) ns.length cc,.int .i64 (now:Nat),.string ⟨k.toArray⟩] (w3.drewN n) fun e w'=>e=.returned (.int .i64 (fK ns now k))/\w'=w3.drewN n):=fun n=>Hz (w3.drewN n) B P ns _ own N cc _ xs ks now k (x5.gb (aj (ax w3 none) n)) zX.o.1 zX.o.2.2.1 (by omega)
   have CF:Hd (∀w,Dt w B P R s now 0 (.ok j1) ns own->Calls prog 82 #[.pointer (some ⟨R,0,none⟩),.int .i64 5,.int .i64 (i:Nat)] w fun e w'=>e=.returned (.tuple #[])/\Dt w' B P R s now 0 (.error (5,i)) ns own/\DFr B P w w'):=fun w h=>yA B P R s now 0 ns own j1 w h 5 (by decide) i
   have hbl:=jP s.data.toList j1 (by omega);have CV:Hd (∀w,Dt w B P R s now 0 (.ok (bl s.data.toList j1)) ns own->Calls prog 83 #[.pointer (some ⟨R,0,none⟩),.int .i64 (now:Nat),.string ⟨k.toArray⟩,.int .i64 (i:Nat)] w (qc B P R s now 0 own (val s.data.toList (2*s.data.toList.length+2) (bl s.data.toList j1) now k i 0 ns) w)):=fun w h=>(acE _).1 B P R s own now _ now k i 0 ns w h hs zX.o.1 zX.o.2.1 zX.o.2.2.1 zX.o.2.2.2 (by omega) (by omega) (by omega)
   obtain⟨M,hM⟩:=zN (ns.length);rw[hM]at c2 D5;have hMs:M<=700000:=by omega
   clear x1 x2 x3 x4 x5 x6 hM hbl hij hjs hj1 acO hsz
   cases hk:ai ns now k with
   | some q =>
    rw[Ij hk]at D5;have aA:Hd (G=.error (5,i)):=NP.o j1 q rfl hk;have hq0:(0:Int)<=(q:Int):=by omega
    have hq1:decide ((0:Int)<=(q:Int))=true:=by simp
    clear hk;go_wp2;go_quiet (first|(go_at_call 14;exact Calls.quiet_of_same (D5.o _)));have aF:=HD3.o.drew nq;have dG:Hd (Dt (w3.drewN nq) B P R s now 0 (.ok j1) ns own):=aF.1;have bK:Hd (DFr B P w (w3.drewN nq)):=HF3.o.two aF.2;obtain⟨wA,hwA⟩:∃W,w3.drewN nq=W:=⟨_,rfl⟩;rw[hwA]at dG bK ⊢;clear hwA aF c2 c4 c5;go_wp2_with (first|(go_at_call 82;refine(CF.o _ dG.o).mono ?_;rintro e w4 ⟨rfl,hd4,hf4⟩)|(go_at_call 51;refine(CB.o (.error (5,i)) _ hd4.fq).mono ?_));rintro e w5 ⟨rfl,hd5,hf5⟩;have HD5:Hd (Fq w5 B P R s now 0 (5,i)):=hd5;have uO:Hd (DFr B P w w5):=(bK.o.two hf4).two hf5;obtain⟨b4,-,-⟩:=HD5.o.now;clear hd4 hf4 hd5 hf5;go_wp2_with (go_at_call 83;refine(NL.o (5,i) k _ HD5.o).mono ?_;rintro e w6 ⟨rfl,hd6,rC⟩);refine bodyPost_end (results_none rfl _ _ _) rfl ?_;rw[aA.o];exact⟨rfl,fun d hh=>(by cases hh),fun c' hh=>(by cases hh;exact⟨now,hd6⟩),uO.o.two rC⟩
   | none =>
    rw[Ii hk]at D5;have aA:Hd (G=Il own now (val s.data.toList (2*s.data.toList.length+2) (bl s.data.toList j1) now k i 0 ns)):=NQ.o j1 rfl hk;obtain⟨V,hV⟩:=zN (val s.data.toList (2*s.data.toList.length+2) (bl s.data.toList j1) now k i 0 ns);rw[hV]at aA CV;clear hk hV;go_wp2;go_quiet (first|(go_at_call 14;exact Calls.quiet_of_same (D5.o _)));have aF:=HD3.o.drew nq;have dG:Hd (Dq (w3.drewN nq) B P R s now 0 (.ok j1) ns own):=aF.1;have bK:Hd (DFr B P w (w3.drewN nq)):=HF3.o.two aF.2;obtain⟨wA,hwA⟩:∃W,w3.drewN nq=W:=⟨_,rfl⟩;rw[hwA]at dG bK ⊢;clear hwA aF c2 c4 c5;go_wp2_with (go_at_call 51;refine(CB.o (.ok j1) _ dG.o).mono ?_);rintro e w5 ⟨rfl,hd5,hf5⟩;have HD5:Hd (Dt w5 B P R s now 0 (.ok (bl s.data.toList j1)) ns own):=hd5;have uO:Hd (DFr B P w w5):=bK.o.two hf5;obtain⟨-,-,-,-,b4,-,-⟩:=HD5.o.cells;clear hd5 hf5
    go_wp2_with (go_at_call 83;refine(CV.o _ HD5.o).mono ?_;rintro e w6 ⟨rfl,a1,a2,rC⟩);refine bodyPost_end (results_none rfl _ _ _) rfl ?_;rw[aA.o];refine⟨rfl,fun d hh=>?_,fun c' hh=>?_,uO.o.two rC⟩
    ·cases V with
     | error e=>cases hh
     | ok r =>
      obtain⟨j2,ns2⟩:=r;have e1:(Except.ok ⟨j2,ns2,own,now⟩:Rs Sd)=.ok d:=hh;injection e1 with e1
      subst e1;exact a1 j2 ns2 rfl
    ·cases V with
     | error e =>
      have e1:(Except.error e:Rs Sd)=.error c':=hh;injection e1 with e1
      subst e1;exact⟨now,a2 e rfl⟩
     | ok r=>cases hh
def D6(ns:List Tn)(own:List Nat)(now:Nat):Rs Nat->Rs Sd
 | .error e=>.error e
 | .ok j=>.ok ⟨j,ns,own,now⟩
def sZ(l:List UInt8)(ns:List Tn)(own:List Nat)(now:Nat):Rs Nat->Rs Sd
 | .error e=>.error e
 | .ok m=>if l.length<=m then .ok ⟨m,ns,own,now⟩ else D6 ns own now (must l m 10)
theorem acP(l:List UInt8)(ns:List Tn)(own:List Nat)(now m:Nat)(h:m<l.length):sZ l ns own now (.ok m)=D6 ns own now (must l m 10):=by
 show(if _ then _ else _)=_;rw[if_neg (by omega)]
theorem acQ(l:List UInt8)(ns:List Tn)(own:List Nat)(now m:Nat)(h:l.length<=m):sZ l ns own now (.ok m)=.ok ⟨m,ns,own,now⟩:=by
 show(if _ then _ else _)=_;rw[if_pos h]
def yD(l:List UInt8):Rs Sd->Rs Sd
 | .error e=>.error e
 | .ok d=>sZ l d.ns d.own d.now ((Except.bind (.ok d.i) fun i=>.ok (bl l i):Rs Nat).bind (gY l))
theorem acR(l:List UInt8)(d:Sd):(if(bu l (bl l d.i)).1=false then .error (2,(bu l (bl l d.i)).2)
  else if nx l (bu l (bl l d.i)).2=-1 then .ok ⟨(bu l (bl l d.i)).2,d.ns,d.own,d.now⟩
  else D6 d.ns d.own d.now (must l (bu l (bl l d.i)).2 10):Rs Sd)=yD l (.ok d):=by
 show _=sZ l d.ns d.own d.now (gY l (bl l d.i));unfold gY
 cases hc:(bu l (bl l d.i)).1 with
 | false=>rw[if_pos rfl,if_neg (by decide)];rfl
 | true =>
  rw[if_neg (by decide),if_pos rfl];show _=if _ then _ else _
  by_cases h:nx l (bu l (bl l d.i)).2=-1
  ·rw[if_pos h,if_pos (Bc h)]
  ·rw[if_neg h,if_neg (fun hh=>h (jG _ _ hh))]
theorem acS(l:List UInt8)(d:Sd):iR l d=yD l (if nx l (bl l d.i)=91 then gI l ⟨bl l d.i,d.ns,d.own,d.now⟩ else if nx l (bl l d.i)=34\/aO (nx l (bl l d.i))=true then rdPair l ⟨bl l d.i,d.ns,d.own,d.now⟩ else .ok ⟨bl l d.i,d.ns,d.own,d.now⟩):=by
 unfold iR;simp only[];generalize (if nx l (bl l d.i)=91 then gI l ⟨bl l d.i,d.ns,d.own,d.now⟩ else if nx l (bl l d.i)=34\/aO (nx l (bl l d.i))=true then rdPair l ⟨bl l d.i,d.ns,d.own,d.now⟩ else .ok ⟨bl l d.i,d.ns,d.own,d.now⟩:Rs Sd)=X
 cases X with
 | error e=>rfl
 | ok d1 =>
  rw[<-acR];simp only[];split
  ·rfl
  ·split
   ·rfl
   ·cases must l (bu l (bl l d1.i)).2 10<;>rfl
theorem run_stop(p:UInt8->Bool):∀(l:List UInt8),(l.drop (l.takeWhile p).length).takeWhile p=[]
 | []=>rfl
 | c :: r=>by
  rw[List.takeWhile_cons]
  cases h:p c with
  | true=>simp only[if_true,List.length_cons,List.drop_succ_cons];exact run_stop p r
  | false=>simp[h]
theorem acT(p:Int->Bool)(l:List UInt8)(i:Nat):toR p l (toR p l i)=toR p l i:=by
 have h:=run_stop (fun c=>p (c.toNat:Int)) (l.drop i);have e:runN (fun c=>p (c.toNat:Int)) l (i+runN (fun c=>p (c.toNat:Int)) l i)=0:=by
  unfold runN;rw[List.drop_drop]at h;rw[h];rfl
 unfold toR;rw[e];rfl
theorem acU(l:List UInt8)(i:Nat):bl l (bl l i)=bl l i:=acT fM l i
theorem acV(l:List UInt8)(d:Sd)(h34:¬nx l d.i=34)(hba:aO (nx l d.i)=false):rdPair l d=.error (2,d.i):=by
 have e:toR aO l d.i=d.i:=lX aO l d.i hba;have hk:bY l d.i=.error (2,d.i):=by unfold bY;rw[if_neg h34,if_pos e]
 unfold rdPair;rw[hk]
theorem acW(l:List UInt8)(d:Sd):iR l d=yD l (if nx l (bl l d.i)=91 then gI l ⟨bl l d.i,d.ns,d.own,d.now⟩ else if ¬nx l (bl l d.i)=-1/\¬nx l (bl l d.i)=35/\¬nx l (bl l d.i)=10 then rdPair l ⟨bl l d.i,d.ns,d.own,d.now⟩ else .ok ⟨bl l d.i,d.ns,d.own,d.now⟩):=by
 rw[acS]
 by_cases kD:nx l (bl l d.i)=91
 ·rw[if_pos kD,if_pos kD]
 ·rw[if_neg kD,if_neg kD]
  by_cases hp:nx l (bl l d.i)=34\/aO (nx l (bl l d.i))=true
  ·rw[if_pos hp,if_pos];refine⟨fun e=>?_,fun e=>?_,fun e=>?_⟩<;>(rw[e]at hp;revert hp;decide)
  ·rw[if_neg hp]
   by_cases ho:¬nx l (bl l d.i)=-1/\¬nx l (bl l d.i)=35/\¬nx l (bl l d.i)=10
   ·rw[if_pos ho,acV l ⟨bl l d.i,d.ns,d.own,d.now⟩ (fun e=>hp (Or.inl e)) (by cases hh:aO (nx l (bl l d.i));rfl;exact(hp (Or.inr hh)).elim)];show sZ l d.ns d.own d.now (gY l (bl l (bl l d.i)))=.error (2,bl l d.i);rw[acU,QF l _ ho.2.1];show(if _ then _ else _)=_;rw[if_neg (fun hh=>ho.1 (jG _ _ hh))];unfold must;rw[if_neg ho.2.2];rfl
   ·rw[if_neg ho]
open Go.RowKit Go.Maps Go.WideMaps Go.Joins
def NR:Prop:=∀(B P R:Nat) (s:ByteArray) (now i:Nat) (ns:List Tn) (own:List Nat) (w:World),Dt w B P R s now 0 (.ok i) ns own->P<B->s.size<=100000->nx s.data.toList i=91->Li s.data.toList ⟨i,ns,own,now⟩ →
 Calls prog 53 #[.pointer (some ⟨R,0,none⟩)] w (sW B P R s now own (gI s.data.toList ⟨i,ns,own,now⟩) w)
theorem acX{B P R:Nat}{s:ByteArray}{now now0:Nat}{ns:List Tn}{own own0:List Nat}{q:Rs Nat}{w w':World}(hd:Dq w' B P R s now 0 q ns own)(hf:DFr B P w w'):sW B P R s now0 own0 (D6 ns own now q) w (.returned (.tuple #[])) w':=by
 match q,hd with
 | .error e,hd=>exact⟨rfl,fun d hh=>(by cases hh),fun c hh=>(by have hh:(Except.error e:Rs Sd)=.error c:=hh;injection hh with hh;subst hh;exact⟨now,hd⟩),hf⟩
 | .ok j,hd=>exact⟨rfl,fun d hh=>(by have hh:(Except.ok ⟨j,ns,own,now⟩:Rs Sd)=.ok d:=hh;injection hh with hh;subst hh;exact hd),fun c hh=>(by cases hh),hf⟩
theorem acY(CH0:NR)(B P R:Nat)(s:ByteArray)(now i:Nat)(ns:List Tn)(own:List Nat)(w:World)(h:Dt w B P R s now 0 (.ok i) ns own)(hB:P<B)(hs:s.size<=100000)(LI:Li s.data.toList ⟨i,ns,own,now⟩) :
  Calls prog 30 #[.pointer (some ⟨R,0,none⟩)] w (sW B P R s now own (iR s.data.toList ⟨i,ns,own,now⟩) w):=by
 have hl:s.data.toList.length=s.size:=by simp
 have CB:Hd (∀now ns own (q:Rs Nat) w,Dq w B P R s now 0 q ns own->Calls prog 51 #[.pointer (some ⟨R,0,none⟩)] w fun e w'=>e=.returned (.tuple #[])/\Dq w' B P R s now 0 (q.bind fun i=>.ok (bl s.data.toList i)) ns own/\DFr B P w w'):=fun now ns own q w h=>UO B P R s now 0 ns own q w h hs
 have CC:Hd (∀now ns own (q:Rs Nat) w,Dq w B P R s now 0 q ns own->Calls prog 55 #[.pointer (some ⟨R,0,none⟩)] w fun e w'=>e=.returned (.tuple #[])/\Dq w' B P R s now 0 (q.bind (gY s.data.toList)) ns own/\DFr B P w w'):=fun now ns own q w h=>acb B P R s now 0 ns own q w h hs
 have CM:Hd (∀now ns own (q:Rs Nat) w,Dq w B P R s now 0 q ns own->Calls prog 56 #[.pointer (some ⟨R,0,none⟩),.int .u8 10] w fun e w'=>e=.returned (.tuple #[])/\Dq w' B P R s now 0 (q.bind fun i=>must s.data.toList i 10) ns own/\DFr B P w w'):=fun now ns own q w h=>ND B P R s now 0 ns own q w h hs 10 (by decide)
 have hi:i<=s.size:=h.cells.2.2.2.2.2.1;have hbl:=jP s.data.toList i (by omega);have LB:=Dw LI (bl s.data.toList i) hbl.1 hbl.2;have jl:Hd (iR s.data.toList ⟨i,ns,own,now⟩=yD s.data.toList (if nx s.data.toList (bl s.data.toList i)=91 then gI s.data.toList ⟨bl s.data.toList i,ns,own,now⟩ else if ¬nx s.data.toList (bl s.data.toList i)=-1/\¬nx s.data.toList (bl s.data.toList i)=35/\¬nx s.data.toList (bl s.data.toList i)=10 then rdPair s.data.toList ⟨bl s.data.toList i,ns,own,now⟩ else .ok ⟨bl s.data.toList i,ns,own,now⟩)):=acW _ _;have hn1:=LI.nn;simp only[]at hn1;obtain⟨G,hG⟩:=zN (iR s.data.toList ⟨i,ns,own,now⟩);rw[hG]at jl ⊢;obtain⟨j,hj⟩:=zN (bl s.data.toList i);have HBJ:Hd ((Except.bind (.ok i) fun i=>.ok (bl s.data.toList i):Rs Nat)=.ok j):=by show Except.ok _=_;rw[hj]
 rw[hj]at jl LB hbl;obtain⟨hij,hjs⟩:=hbl;have CI:Hd (∀w,Dq w B P R s now 0 (.ok j) ns own->Calls prog 52 #[.pointer (some ⟨R,0,none⟩),.int .u8 91] w fun e w'=>e=.returned (.bool (decide (nx s.data.toList j=91)))/\Dq w' B P R s now 0 (.ok j) ns own/\DFr B P w w'):=fun w h=>UQ B P R s now 0 ns own (.ok j) w h hs 91 (by decide)
 have wP:Hd (∀w,Dt w B P R s now 0 (.ok j) ns own->nx s.data.toList j=91->Calls prog 53 #[.pointer (some ⟨R,0,none⟩)] w (sW B P R s now own (gI s.data.toList ⟨j,ns,own,now⟩) w)):=fun w h hx=>CH0 B P R s now j ns own w h hB hs hx LB
 have CP:Hd (∀w,Dt w B P R s now 0 (.ok j) ns own->Calls prog 54 #[.pointer (some ⟨R,0,none⟩)] w (sW B P R s now own (rdPair s.data.toList ⟨j,ns,own,now⟩) w)):=fun w h=>acN B P R s now j ns own w h LB.jt.wf LB.jt.wt LB.jt.lt (by rw[LB.jt.kd];decide) (by rw[hl]at hjs;omega) hs
 have HD0:Hd (Dq w B P R s now 0 (.ok i) ns own):=h;have HX:Hd (∀(hk:j<s.size),nx s.data.toList j=(s[j].toNat:Int)):=byte_at s j;have uk:Hd (¬j<s.size->nx s.data.toList j=-1):=fun hh=>jG _ _ (by omega)
 clear h hG hj LB LI CH0 hn1;go_enter func30,ntmps30;go_wp2_with (go_at_call 51;refine(CB.o now ns own (.ok i) _ HD0.o).mono ?_);rintro e w1 ⟨rfl,hd1,hf1⟩;rw[HBJ.o]at hd1;have HD1:Hd (Dq w1 B P R s now 0 (.ok j) ns own):=hd1;have jF:Hd (DFr B P w w1):=hf1;clear hd1 hf1;have hcs:nx s.data.toList j=91\/(¬nx s.data.toList j=91/\((∃hjl:j<s.size,((s[j].toNat:Int) != 35)=true/\((s[j].toNat:Int) != 10)=true)\/(∃hjl:j<s.size,((s[j].toNat:Int) != 35)=false)\/(∃hjl:j<s.size,((s[j].toNat:Int) != 35)=true/\((s[j].toNat:Int) != 10)=false)\/¬j<s.size)):=by
  by_cases kD:nx s.data.toList j=91
  ·exact .inl kD
  ·by_cases hjl:j<s.size
   ·cases b5:((s[j].toNat:Int) != 35) with
    | false=>exact .inr ⟨kD,.inr (.inl ⟨hjl,b5⟩)⟩
    | true =>
     cases b1:((s[j].toNat:Int) != 10) with
     | false=>exact .inr ⟨kD,.inr (.inr (.inl ⟨hjl,b5,b1⟩))⟩
     | true=>exact .inr ⟨kD,.inl ⟨hjl,b5,b1⟩⟩
   ·exact .inr ⟨kD,.inr (.inr (.inr hjl))⟩
 rcases hcs with p1|⟨kD,⟨hjl,hb5,hb1⟩|⟨hjl,hc5⟩|⟨hjl,hb5,hc1⟩|hje⟩
 all_goals (
  have ay:=jl.o
  first
   | (first
     | (rw[decide_eq_true p1]at CI
        rw[if_pos p1]at ay;have lT:Hd (G=yD s.data.toList (gI s.data.toList ⟨j,ns,own,now⟩)):=ay;have rZ:Hd (∀w,Dt w B P R s now 0 (.ok j) ns own->Calls prog 53 #[.pointer (some ⟨R,0,none⟩)] w (sW B P R s now own (gI s.data.toList ⟨j,ns,own,now⟩) w)):=fun w h=>wP.o w h p1
        obtain⟨V,hV⟩:=zN (gI s.data.toList ⟨j,ns,own,now⟩);rw[hV]at lT rZ;clear p1 hV ay;go_wp2_with (first|(go_at_call 52;refine(CI.o _ HD1.o).mono ?_;rintro e w2 ⟨rfl,hd2,hf2⟩)|(go_at_call 53;refine(rZ.o _ hd2).mono ?_));rintro e w4 ⟨rfl,a1,a2,hf4⟩;have xm:Hd (DFr B P w w4):=(jF.o.two hf2).two hf4;clear hd2 hf2 hf4)
     | (have hxj:=HX.o hjl
        rw[if_neg kD,if_pos ⟨by rw[hxj];omega,by rw[hxj];simpa using hb5,by rw[hxj];simpa using hb1⟩]at ay;have lT:Hd (G=yD s.data.toList (rdPair s.data.toList ⟨j,ns,own,now⟩)):=ay;have uw:Hd (∀w,Dt w B P R s now 0 (.ok j) ns own->Calls prog 54 #[.pointer (some ⟨R,0,none⟩)] w (sW B P R s now own (rdPair s.data.toList ⟨j,ns,own,now⟩) w)):=CP.o;rw[decide_eq_false kD]at CI;have hlt1:decide ((j:Int)<(s.size:Int))=true:=by simp;omega
        obtain⟨V,hV⟩:=zN (rdPair s.data.toList ⟨j,ns,own,now⟩);rw[hV]at lT uw;clear kD hV hxj CP ay;go_wp2_with (go_at_call 52;refine(CI.o _ HD1.o).mono ?_);rintro e w2 ⟨rfl,hd2,hf2⟩;have HD2:Hd (Dt w2 B P R s now 0 (.ok j) ns own):=hd2;have HF2:Hd (DFr B P w w2):=jF.o.two hf2;obtain⟨c0,c1,-,-,-,-,-⟩:=HD2.o.cells;clear hd2 hf2;go_wp2;go_quiet (fail);have aF:=HD2.o.drew nq;have dG:Hd (Dt (w2.drewN nq) B P R s now 0 (.ok j) ns own):=aF.1;have bK:Hd (DFr B P w (w2.drewN nq)):=HF2.o.two aF.2;obtain⟨wA,hwA⟩:∃W,w2.drewN nq=W:=⟨_,rfl⟩;rw[hwA]at dG bK ⊢;clear hwA aF c0 c1;go_wp2_with (go_at_call 54;refine(uw.o _ dG.o).mono ?_);rintro e w4 ⟨rfl,a1,a2,hf4⟩;have xm:Hd (DFr B P w w4):=bK.o.two hf4;clear hf4)
      obtain⟨nw,nsx,ow,q1,hq,htl⟩:∃nw nsx ow,∃q1:Rs Nat,Dq w4 B P R s nw 0 q1 nsx ow/\sZ s.data.toList nsx ow nw ((q1.bind fun i=>.ok (bl s.data.toList i)).bind (gY s.data.toList))=G:=by
       cases V with
       | error c =>
        obtain⟨now',hd4⟩:=a2 c rfl;exact⟨now',ns,own,.error c,hd4,by rw[lT.o];rfl⟩
       | ok d=>exact⟨d.now,d.ns,d.own,.ok d.i,a1 d rfl,by rw[lT.o];rfl⟩
      have NS:Hd (Dq w4 B P R s nw 0 q1 nsx ow):=hq;have Iq:Hd (sZ s.data.toList nsx ow nw ((q1.bind fun i=>.ok (bl s.data.toList i)).bind (gY s.data.toList))=G):=htl;clear a1 a2 hq htl)
   | (rw[if_neg kD,if_neg (by
       rintro⟨y1,y2,y3⟩
       first
        | exact y1 (uk.o hje)
        | (rw[HX.o hjl]at y2;simp at hc5;omega)
        | (rw[HX.o hjl]at y3;simp at hc1;omega))]at ay
      have lT:Hd (G=yD s.data.toList (.ok ⟨j,ns,own,now⟩)):=ay;rw[decide_eq_false kD]at CI
      first
       | (have hlt1:decide ((j:Int)<(s.size:Int))=false:=by simp;omega)
       | (have hlt1:decide ((j:Int)<(s.size:Int))=true:=by simp;omega)
      clear kD CP ay;go_wp2_with (go_at_call 52;refine(CI.o _ HD1.o).mono ?_);rintro e w2 ⟨rfl,hd2,hf2⟩;have HD2:Hd (Dt w2 B P R s now 0 (.ok j) ns own):=hd2;have HF2:Hd (DFr B P w w2):=jF.o.two hf2;obtain⟨c0,c1,-,-,-,-,-⟩:=HD2.o.cells;clear hd2 hf2;go_wp2;go_quiet (fail);have aF:=HD2.o.drew nq;obtain⟨nw,nsx,ow,q1,hq,htl⟩:∃nw nsx ow,∃q1:Rs Nat,Dq (w2.drewN nq) B P R s nw 0 q1 nsx ow/\sZ s.data.toList nsx ow nw ((q1.bind fun i=>.ok (bl s.data.toList i)).bind (gY s.data.toList))=G:=⟨now,ns,own,.ok j,aF.1,by rw[lT.o];rfl⟩;have xm:Hd (DFr B P w (w2.drewN nq)):=HF2.o.two aF.2;have NS:Hd (Dq (w2.drewN nq) B P R s nw 0 q1 nsx ow):=hq;have Iq:Hd (sZ s.data.toList nsx ow nw ((q1.bind fun i=>.ok (bl s.data.toList i)).bind (gY s.data.toList))=G):=htl;obtain⟨w4,hw4⟩:∃W,w2.drewN nq=W:=⟨_,rfl⟩;rw[hw4]at NS xm ⊢;clear hw4 aF c0 c1 hq htl)
  go_wp2_with (first|(go_at_call 51;refine(CB.o nw nsx ow q1 _ NS.o).mono ?_;rintro e w5 ⟨rfl,hd5,hf5⟩)|(go_at_call 55;refine(CC.o nw nsx ow _ _ hd5).mono ?_));rintro e w6 ⟨rfl,hd6,rC⟩;have HF6:Hd (DFr B P w w6):=(xm.o.two hf5).two rC;have tq:Hd (Dq w6 B P R s nw 0 ((q1.bind fun i=>.ok (bl s.data.toList i)).bind (gY s.data.toList)) nsx ow):=hd6;obtain⟨q6,hq6⟩:=zN ((q1.bind fun i=>.ok (bl s.data.toList i)).bind (gY s.data.toList));have uB:Hd (sZ s.data.toList nsx ow nw q6=G):=by
   show _=_;rw[<-hq6];exact Iq.o
  rw[hq6]at tq;clear hd5 hf5 hd6 rC hq6
  match q6,tq,uB with
  | .error c,tq,uB =>
   obtain⟨Lx,Ox,⟨y1,jj,y2,y3⟩,y4⟩:=tq.o;obtain⟨z0,z1,-,-,-,-,-,-,-⟩:=y3.cells;have aA:Hd (G=.error c):=uB.o.symm;clear y1 y3 y4
   by_cases hjj:jj<s.size
   ·have hlt1:decide ((jj:Int)<(s.size:Int))=true:=by simp;omega
    have hlt2:(jj:Int)<(s.size:Int):=by omega
    go_wp2;go_quiet (fail);have aF:=Fq.drew tq.o nq;have dG:Hd (Dq (w6.drewN nq) B P R s nw 0 (.error c) nsx ow):=aF.1;have bK:Hd (DFr B P w (w6.drewN nq)):=HF6.o.two aF.2;obtain⟨wA,hwA⟩:∃W,w6.drewN nq=W:=⟨_,rfl⟩;rw[hwA]at dG bK ⊢;clear hwA aF z0 z1;go_wp2_with (go_at_call 56;refine(CM.o nw nsx ow (.error c) _ dG.o).mono ?_;rintro e w7 ⟨rfl,hd7,jT⟩);refine bodyPost_end (results_none rfl _ _ _) rfl ?_;rw[aA.o];exact⟨rfl,fun d hh=>(by cases hh),fun c' hh=>(by injection hh with hh;subst hh;exact⟨nw,hd7⟩),bK.o.two jT⟩
   ·have hlt1:decide ((jj:Int)<(s.size:Int))=false:=by simp;omega
    have hlt2:¬(jj:Int)<(s.size:Int):=by omega
    go_wp2;go_quiet (fail);have aF:=Fq.drew tq.o nq;have dG:Hd (Fq (w6.drewN nq) B P R s nw 0 c):=aF.1;have bK:Hd (DFr B P w (w6.drewN nq)):=HF6.o.two aF.2;go_wp2;refine bodyPost_end (results_none rfl _ _ _) rfl ?_;rw[aA.o];exact⟨rfl,fun d hh=>(by cases hh),fun c' hh=>(by injection hh with hh;subst hh;exact⟨nw,dG.o⟩),bK.o⟩
  | .ok m,tq,uB =>
   obtain⟨z0,z1,-,-,-,hms,-⟩:=Dt.cells tq.o
   by_cases hm:m<s.size
   ·have hlt1:decide ((m:Int)<(s.size:Int))=true:=by simp;omega
    have hlt2:(m:Int)<(s.size:Int):=by omega
    have HGM:Hd (D6 nsx ow nw (must s.data.toList m 10)=G):=(acP s.data.toList nsx ow nw m (by omega)).symm.trans uB.o;go_wp2;go_quiet (fail);have aF:=Dt.drew tq.o nq;have dG:Hd (Dq (w6.drewN nq) B P R s nw 0 (.ok m) nsx ow):=aF.1;have bK:Hd (DFr B P w (w6.drewN nq)):=HF6.o.two aF.2;obtain⟨wA,hwA⟩:∃W,w6.drewN nq=W:=⟨_,rfl⟩;rw[hwA]at dG bK ⊢;clear hwA aF z0 z1;go_wp2_with (go_at_call 56;refine(CM.o nw nsx ow (.ok m) _ dG.o).mono ?_;rintro e w7 ⟨rfl,hd7,jT⟩);refine bodyPost_end (results_none rfl _ _ _) rfl ?_;have acZ:Dq w7 B P R s nw 0 (must s.data.toList m 10) nsx ow:=hd7;rw[<-HGM.o];exact acX acZ (bK.o.two jT)
   ·have hlt1:decide ((m:Int)<(s.size:Int))=false:=by simp;omega
    have hlt2:¬(m:Int)<(s.size:Int):=by omega
    have aA:Hd (G=.ok ⟨m,nsx,ow,nw⟩):=uB.o.symm.trans (acQ s.data.toList nsx ow nw m (by omega));go_wp2;go_quiet (fail);have aF:=Dt.drew tq.o nq;have dG:Hd (Dt (w6.drewN nq) B P R s nw 0 (.ok m) nsx ow):=aF.1;have bK:Hd (DFr B P w (w6.drewN nq)):=HF6.o.two aF.2;go_wp2;refine bodyPost_end (results_none rfl _ _ _) rfl ?_;rw[aA.o];exact⟨rfl,fun d hh=>(by cases hh;exact dG.o),fun c' hh=>(by cases hh),bK.o⟩)
open Go.RowKit Go.Maps Go.WideMaps Go.Joins
theorem ac0(w:World)(B P:Nat)(hP:P<w.heap.size):DtD w B P [] 0 [] (.slice none 0 0) (.slice none 0 0) [] (fun _=>.slice none 0 0) :=
 ⟨World.ownsRow_nil _ _ _ _,fun i hi=>absurd hi (by simp),fun i hi=>absurd hi (by simp),fun i j g hi=>absurd hi (by simp),World.ownsRow_nil _ _ _ _,fun i hi=>absurd hi (by simp),hP⟩
theorem ac1(B P R:Nat)(s:ByteArray)(now de:Nat)(q:Rs Nat)(w:World)(hS:Ds w R s (.slice none 0 0) (.slice none 0 0) now de q)(jA:B<=R)(oO:¬P=R)(hP:P<w.heap.size) :
  Calls prog 29 #[.pointer (some ⟨R,0,none⟩),.int .i64 (-1),.agg #[.int .i64 0,.string ⟨#[]⟩,.string ⟨#[]⟩,.int .i64 0,.slice none 0 0,.int .i64 0]] w fun e w'=>e=.returned (.int .i64 0)/\Dt w' B P R s now de q [⟨0,[],[],0,[],0⟩] []/\DFr B P w w':=by
 obtain⟨i0,hi0,hii⟩:=Option.map_eq_some_iff.1 Uy;simp only[Prod.mk.injEq]at hii;obtain⟨hz0,hz1,hzb⟩:=hii;obtain⟨b0,hb0,hbb⟩:=Option.map_eq_some_iff.1 Uz;simp only[Prod.mk.injEq]at hbb;obtain⟨hx0,hx1,hxb⟩:=hbb;have hone:=UD ⟨0,[],[],0,[],0⟩;have wW:Hd (H5 ⟨0,[],[],0,[],0⟩=[.int .i64 0,.string ⟨#[]⟩,.string ⟨#[]⟩,.int .i64 0,.slice none 0 0,.int .i64 0]):=rfl;rw[wW.o]at hone;have Nw:=UA;obtain⟨K,jg⟩:=zN (w.heap.size);have eX:w.grownBy (w.alloc (.cells #[.int .i64 0,.string ⟨#[]⟩,.string ⟨#[]⟩,.int .i64 0,.slice none 0 0,.int .i64 0] 45)) none:=World.grownBy_alloc w _ none;have bZ:=heap_alloc_new w (.cells #[.int .i64 0,.string ⟨#[]⟩,.string ⟨#[]⟩,.int .i64 0,.slice none 0 0,.int .i64 0] 45);have pM:(w.alloc (.cells #[.int .i64 0,.string ⟨#[]⟩,.string ⟨#[]⟩,.int .i64 0,.slice none 0 0,.int .i64 0] 45)).heap.size=K+1:=by rw[World.size_alloc,jg]
 rw[jg]at bZ;have hS1:=hS.grow eX;obtain⟨ii,er,pp,hdd⟩:=hS.dd;have hBs:B<=w.heap.size:=Nat.le_of_lt (Nat.lt_of_le_of_lt jA (aB hdd));have jF:Hd (DFr B P w (w.alloc (.cells #[.int .i64 0,.string ⟨#[]⟩,.string ⟨#[]⟩,.int .i64 0,.slice none 0 0,.int .i64 0] 45))):=DFr.gb eX hBs hP;obtain⟨w1,hw1⟩:=zN (w.alloc (.cells #[.int .i64 0,.string ⟨#[]⟩,.string ⟨#[]⟩,.int .i64 0,.slice none 0 0,.int .i64 0] 45));rw[hw1]at bZ pM jF hS1;have hP1:P<w1.heap.size:=by omega
 have afM:B<=w1.heap.size:=by omega
 have hD1:=ac0 w1 B P hP1;obtain⟨ii1,er1,pp1,wX⟩:=hS1.dd;obtain⟨-,-,d2,d3,-,-,-,-,dfz⟩:=wX.cells;have ut:Hd (some R≠(Value.slice none 0 0).ownBlock):=by show some R≠none;simp
 have dA:(w1.alloc (.cells #[.int .i64 0,.string ⟨#[]⟩,.string ⟨#[]⟩,.int .i64 0,.slice none 0 0,.int .i64 0] 45)).cell? ⟨R,2,none⟩=some (.slice none 0 0):=(World.grownBy_alloc w1 _ none).cell d2 (by simp);have BN:Hd (Dd w1 R s (.slice none 0 0) (.slice none 0 0) now de ii1 er1 pp1):=wX;have k0:w1.cell? ⟨K,0,none⟩=some (.int .i64 0):=by rw[af bZ];rfl
 have k1:w1.cell? ⟨K,1,none⟩=some (.string ⟨#[]⟩):=by rw[af bZ];rfl
 have k2:w1.cell? ⟨K,2,none⟩=some (.string ⟨#[]⟩):=by rw[af bZ];rfl
 have k3:w1.cell? ⟨K,3,none⟩=some (.int .i64 0):=by rw[af bZ];rfl
 have k4:w1.cell? ⟨K,4,none⟩=some (.slice none 0 0):=by rw[af bZ];rfl
 have k5:w1.cell? ⟨K,5,none⟩=some (.int .i64 0):=by rw[af bZ];rfl
 have HD1:Hd (DtD w1 B P [] 0 [] (.slice none 0 0) (.slice none 0 0) [] (fun _=>.slice none 0 0)):=hD1;have dZ:Hd (Ds w1 R s (.slice none 0 0) (.slice none 0 0) now de q):=hS1;have dQ:Hd ((w1.drew.alloc (.cells #[.int .i64 0,.string ⟨#[]⟩,.string ⟨#[]⟩,.int .i64 0,.slice none 0 0,.int .i64 0] 45)).heap[K+1]?=some (.cells #[.int .i64 0,.string ⟨#[]⟩,.string ⟨#[]⟩,.int .i64 0,.slice none 0 0,.int .i64 0] 45 (0,0))):=by
  have:=heap_alloc_new w1.drew (.cells #[.int .i64 0,.string ⟨#[]⟩,.string ⟨#[]⟩,.int .i64 0,.slice none 0 0,.int .i64 0] 45);rw[show w1.drew.heap.size=K+1 from pM]at this;exact this
 have ab6:¬(0:Int)<=(-1:Int):=by omega
 clear eX bZ hS hS1 hdd wX dfz hD1;go_enter func29,ntmps29;go_upto_region 2 with fail
 go_cut [] from 13 (fun wx=>∃(g cap:Nat) (xs':List Value) (ks':Nat->Value),DtD wx B P [⟨0,[],[],0,[],0⟩] 0 [] (.slice (some ⟨g,0,none⟩) 1 cap) (.slice none 0 0) xs' ks'/\Ds wx R s (.slice (some ⟨g,0,none⟩) 1 cap) (.slice none 0 0) now de q/\DFr B P w1 wx/\¬P=g)
 case first =>
  go_region_law (refine step_append_lies _ (by rfl) _ _ _ (by rfl) B 45 i0 _ 6 80 underlying39 hi0 hz0 hz1 hzb (by rfl) (by decide) (.slice none 0 0) 0 [] (by rfl) (World.ownsRow_nil _ _ _ _) ⟨K+1,0,none⟩ 1 1 [.int .i64 0,.string ⟨#[]⟩,.string ⟨#[]⟩,.int .i64 0,.slice none 0 0,.int .i64 0] (by rfl) (by rfl) (World.news_of_block dQ.o) hone (by omega) (by unfold maxLen;omega) (by omega) (by simp;omega) _ rfl ?_;intro g cap w3 hown3 hgrow hat hlt3;have hc3:w3.cell? ⟨R,2,none⟩=some (.slice none 0 0):=nz d2 hgrow ut.o;have oM:w3.frozen? ⟨R,2,none⟩=false:=qV BN.o hgrow ut.o)
  all_goals (
   go_wp2_with fail;go_meet;obtain⟨xs',ks',q1,q2,q3,q4⟩:=UB (ns:=[]) ⟨0,[],[],0,[],0⟩ rfl HD1.o dZ.o jA oO (by show(none:Option Nat)≠_;simp) hown3 hgrow hat;exact⟨g,cap,xs',ks',q1,q2,q3,q4⟩)
 case rest =>
  obtain⟨N1,c1,xs1,ks1,hD2,hS2,hF2,DK⟩:=hcut;obtain⟨ii2,er2,pp2,sU⟩:=hS2.dd;obtain⟨-,-,e2,e3,-,-,-,-,efz⟩:=sU.cells;have wY:Hd (some R≠(Value.slice none 0 0).ownBlock):=ut.o;have xe:Hd (Dd wc R s (.slice (some ⟨N1,0,none⟩) 1 c1) (.slice none 0 0) now de ii2 er2 pp2):=sU;have HD2:Hd (DtD wc B P [⟨0,[],[],0,[],0⟩] 0 [] (.slice (some ⟨N1,0,none⟩) 1 c1) (.slice none 0 0) xs1 ks1):=hD2;have HS2:Hd (Ds wc R s (.slice (some ⟨N1,0,none⟩) 1 c1) (.slice none 0 0) now de q):=hS2;have HF2:Hd (DFr B P w1 wc):=hF2;have H7:Hd (¬P=N1):=DK;have hBc:B<=wc.heap.size:=Nat.le_of_lt (Nat.lt_of_le_of_lt jA (aB sU));clear hD2 hS2 hF2 DK sU efz;go_wp2_with (first|(at_builtin;refine wpList_append_lies _ rfl _ _ 72 rfl B 4 b0 _ 1 1 underlying72 hb0 hx0 hx1 hxb rfl (by decide) (.slice none 0 0) 0 [] rfl (World.ownsRow_nil _ _ _ _) ⟨wc.heap.size,0,none⟩ 1 1 [.bool false] rfl rfl (World.news_of_block (heap_alloc_new _ _)) Nw (by omega) (by unfold maxLen;omega) (by omega) (by simp;omega) _ rfl ?_;intro g cap w3 hown3 hgrow hat hlt3;have hc3:w3.cell? ⟨R,3,none⟩=some (.slice none 0 0):=hgrow.cell ((World.grownBy_alloc wc _ none).cell e3 (by simp)) wY.o;have oM:w3.frozen? ⟨R,3,none⟩=false:=Lib.frozen_of_heap ((hgrow.block R (by have:=aB xe.o;simp;omega) wY.o).trans (((World.grownBy_alloc wc _ none).block R (aB xe.o) (by simp)).trans xe.o)) 3))
  obtain⟨hD4,hS4,DL,H8⟩:=UC HD2.o HS2.o jA oO (by show(none:Option Nat)≠_;simp) (by simp) hown3 hgrow hat;go_ret;exact⟨rfl,⟨jA,oO,N1,c1,g,cap,xs1,ks1,H7.o,H8,hD4,hS4⟩,(jF.o.two HF2.o).two DL⟩
open Go.RowKit Go.Maps Go.WideMaps Go.Joins
def ac2(r:Rs (List Tn))(w:World)(e:Ending)(w':World):Prop :=
 (∀ns,r=.ok ns->∃N c OV xs ks own m,e=.returned (.tuple #[.slice (some ⟨N,0,none⟩) ns.length c,.int .i64 0,.int .i64 0])/\DtD w' w.heap.size 0 ns m own (.slice (some ⟨N,0,none⟩) ns.length c) OV xs ks) ∧
 (∀c p,r=.error (c,p)->e=.returned (.tuple #[.slice none 0 0,.int .i64 c,.int .i64 (p:Nat)]))/\w.grownBy w' none
theorem Fq.cells{w:World}{B P R:Nat}{s:ByteArray}{now de:Nat}{e:Int × Nat}(h:Fq w B P R s now de e):w.cell? ⟨R,5,none⟩=some (.int .i64 e.1)/\w.cell? ⟨R,6,none⟩=some (.int .i64 (e.2:Nat))/\(e.1 == 0)=false/\(e.1 != 0)=true:=by
 obtain⟨L,O,⟨h1,j,h2,h3⟩,-⟩:=h;exact⟨h3.cells.2.2.2.2.2.1,h3.cells.2.2.2.2.2.2.1,by simpa using h1,by simpa using h1⟩
theorem ac3(CH:NR)(s:ByteArray)(w:World)(h0:0<w.heap.size)(hmx:s.size<2 ^ 62) :
  Calls prog 12 #[.string s] w (ac2 (jL s.data.toList) w):=by
 have hl:s.data.toList.length=s.size:=by simp
 have HE:=He s.data.toList;rw[hl]at HE
 by_cases hbig:100000<s.size
 ·rw[if_pos hbig]at HE;rw[HE];have hb:(100000:Int)<(s.size:Int):=by omega
  clear HE hbig CH;go_enter func12,ntmps12;go_wp2;refine bodyPost_ret (results_tmp3 (t:=2) (u:=3) (v:=4) rfl _ _ _) rfl ?_;exact⟨fun ns hh=>(by cases hh),fun c p hh=>(by cases hh;rfl),ax _ _⟩
 ·rw[if_neg hbig]at HE;rw[HE];have hb:(s.size:Int)<=100000:=by omega
  have hs:s.size<=100000:=by omega
  have hgR:w.grownBy (w.alloc (.cells #[.string s,.int .i64 0,.slice none 0 0,.slice none 0 0,.int .i64 0,.int .i64 0,.int .i64 0,.int .i64 0] 74)) none:=World.grownBy_alloc _ _ none;have hR:=heap_alloc_new w (.cells #[.string s,.int .i64 0,.slice none 0 0,.slice none 0 0,.int .i64 0,.int .i64 0,.int .i64 0,.int .i64 0] 74);have U9:Hd (Ds (w.alloc (.cells #[.string s,.int .i64 0,.slice none 0 0,.slice none 0 0,.int .i64 0,.int .i64 0,.int .i64 0,.int .i64 0] 74)) w.heap.size s (.slice none 0 0) (.slice none 0 0) 0 0 (.ok 0)):=⟨by omega,hR⟩;have hsz1:(w.alloc (.cells #[.string s,.int .i64 0,.slice none 0 0,.slice none 0 0,.int .i64 0,.int .i64 0,.int .i64 0,.int .i64 0] 74)).heap.size=w.heap.size+1:=World.size_alloc _ _;obtain⟨B,hB⟩:=zN (w.heap.size);have CA:Hd (Calls prog 29 #[.pointer (some ⟨w.heap.size,0,none⟩),.int .i64 (-1),.agg #[.int .i64 0,.string ⟨#[]⟩,.string ⟨#[]⟩,.int .i64 0,.slice none 0 0,.int .i64 0]] (w.alloc (.cells #[.string s,.int .i64 0,.slice none 0 0,.slice none 0 0,.int .i64 0,.int .i64 0,.int .i64 0,.int .i64 0] 74)) fun e w'=>e=.returned (.int .i64 0)/\Dt w' B 0 w.heap.size s 0 0 (.ok 0) [⟨0,[],[],0,[],0⟩] []/\Below B w w'):=by
   refine(ac1 B 0 w.heap.size s 0 0 (.ok 0) _ U9.o (by omega) (by omega) (by omega)).mono ?_;rintro e w' ⟨rfl,a,b⟩;refine⟨rfl,a,?_⟩;have h1:=Aj hgR;rw[hB]at h1;exact h1.trans b.bel
  have CL:Hd (∀d w',Dt w' B 0 B s d.now 0 (.ok d.i) d.ns d.own->Li s.data.toList d->Calls prog 30 #[.pointer (some ⟨B,0,none⟩)] w' (sW B 0 B s d.now d.own (iR s.data.toList d) w')):=fun d w' h L=>acY CH B 0 B s d.now d.i d.ns d.own w' h (by omega) hs L
  have Dz:Hd (∀d d',Li s.data.toList d->d.i<s.size->iR s.data.toList d=.ok d'->Li s.data.toList d'/\d.i<d'.i):=fun d d' a b c=>G9 s.data.toList d d' a (by omega) c
  obtain⟨S,hS⟩:=zN (jw s.data.toList (s.data.toList.length+1) ⟨0,[⟨0,[],[],0,[],0⟩],[],0⟩);have HS:Hd (jw s.data.toList (s.data.toList.length+1) ⟨0,[⟨0,[],[],0,[],0⟩],[],0⟩=S):=hS;rw[<-hl,hS];have dQ:Hd (w.heap.size=B):=hB;have HST:Hd (Li s.data.toList ⟨0,[⟨0,[],[],0,[],0⟩],[],0⟩):=Dx _;have dm:Hd (∀f d,jw s.data.toList (f+1) d=if s.data.toList.length<=d.i then .ok d else match iR s.data.toList d with | .error e=>.error e | .ok d1=>jw s.data.toList f d1):=Ha _;clear HE hbig hS hB hR hgR U9 hsz1 CH;go_enter func12,ntmps12;go_wp2_with (go_at_call 29;refine CA.o.mono ?_);rintro e w2 ⟨rfl,hd2,hb2⟩;rw[dQ.o]at hd2 ⊢;have HD2:Hd (Dt w2 B 0 B s 0 0 (.ok 0) [⟨0,[],[],0,[],0⟩] []):=hd2;have HB2:Hd (Below B w w2):=hb2;clear hd2 hb2 CA;go_wp2;go_loopw [] (fun wr=>∃(q:Rs Sd) (f:Nat),(∀d,q=.ok d->Dt wr B 0 B s d.now 0 (.ok d.i) d.ns d.own/\Li s.data.toList d/\s.size-d.i<f/\jw s.data.toList f d=S)/\(∀c,q=.error c->(∃now,Fq wr B 0 B s now 0 c)/\S=.error c)/\Below B w wr) (fun wr=>dM wr B s)
  case atStart=>exact⟨.ok ⟨0,[⟨0,[],[],0,[],0⟩],[],0⟩,s.data.toList.length+1,fun d hd=>(by cases hd;exact⟨HD2.o,HST.o,by simp only[];omega,HS.o⟩),fun c hc=>(by cases hc),HB2.o⟩
  case round =>
   obtain⟨q,f,hok,her,hbe⟩:=hrel;have fQ:Hd (Below B w wr):=hbe;clear hbe
   match q,hok,her with
   | .error c,_,her =>
    obtain⟨⟨now,hf⟩,hSe⟩:=her c rfl;obtain⟨c5,c6,z1,z2⟩:=hf.cells;have az:Hd (S=.error c):=hSe;obtain⟨x,hx⟩:=zN (c.1);obtain⟨y,hy⟩:=zN (c.2);have LC:Hd (c=(x,y)):=by show c=_;rw[<-hx,<-hy]
    rw[hx]at c5 z1 z2;rw[hy]at c6;clear hok her hf hSe hx hy;go_wp2;go_quiet (fail);go_wp2;refine bodyPost_ret (results_tmp3 (t:=2) (u:=3) (v:=4) rfl _ _ _) rfl ?_;rw[az.o,LC.o];refine⟨fun ns hh=>(by cases hh),fun c' p' hh=>?_,?_⟩
    ·have hh:(Except.error (x,y):Rs (List Tn))=.error (c',p'):=hh;injection hh with hh
     injection hh with e1 e2
     subst e1 e2;rfl
    ·have hb:=fQ.o;rw[<-dQ.o]at hb;exact aj (Dy hb) _
   | .ok d,hok,_ =>
    obtain⟨hd,hL,hfu,hall⟩:=hok d rfl;obtain⟨f,rfl⟩:∃f',f=f'+1:=⟨f-1,by omega⟩;rw[dm.o]at hall;have HD:Hd (Dt wr B 0 B s d.now 0 (.ok d.i) d.ns d.own):=hd;have HM:Hd (dM wr B s=s.size-d.i+1):=DT hd;obtain⟨-,c1,c5,-,-,hdi,-⟩:=hd.cells;have mi:=CL.o d wr hd hL;have NT:=Dz.o d;obtain⟨N,cc,O,oc,c2,-⟩:=hd.parts
    by_cases hlt:d.i<s.size
    ·rw[if_neg (by omega)]at hall;have afN:((d.i:Nat):Int)<(s.size:Int):=by omega
     obtain⟨V,hV⟩:=zN (iR s.data.toList d);have Ir:Hd (∀d',V=.ok d'->Li s.data.toList d'/\d.i<d'.i):=fun d' hh=>NT d' hL hlt (hV.trans hh)
     rw[hV]at hall mi;have zJ:Hd (Calls prog 30 #[.pointer (some ⟨B,0,none⟩)] wr (sW B 0 B s d.now d.own V wr)):=mi;have HAE:Hd (∀e,V=.error e->S=.error e):=fun e hh=>by rw[hh]at hall;exact hall.symm
     have HAO:Hd (∀d1,V=.ok d1->jw s.data.toList f d1=S):=fun d1 hh=>by rw[hh]at hall;exact hall
     clear hok her hd hL hall hV mi NT c2;go_wp2_with (go_at_call 30;refine zJ.o.mono ?_;rintro e w3 ⟨rfl,a1,a2,hf3⟩);refine⟨⟨V,f,fun d1 hh=>?_,fun c hh=>⟨a2 c hh,HAE.o c hh⟩,fQ.o.trans hf3.bel⟩,?_⟩
     ·have:=Ir.o d1 hh;exact⟨a1 d1 hh,this.1,by omega,HAO.o d1 hh⟩
     ·rw[HM.o]
      match V,a1,a2,Ir with
      | .error c,_,a2,_ =>
       obtain⟨now,hf⟩:=a2 c rfl;rw[NG hf];omega
      | .ok d1,a1,_,Ir =>
       have:=Ir.o d1 rfl;rw[DT (a1 d1 rfl)];omega
    ·rw[if_pos (by omega)]at hall;have afO:¬((d.i:Nat):Int)<(s.size:Int):=by omega
     have afP:(s.size:Int)<=((d.i:Nat):Int):=by omega
     have az:Hd (S=.ok d):=hall.symm;obtain⟨x1,x2,N,cc,O,oc,xs,ks,x3,x4,x5,x6⟩:=HD.o;obtain⟨-,-,c2',-,-,-,-,-,-⟩:=x6.2.cells;have E5:Hd (DtD wr B 0 d.ns d.ns.length d.own (.slice (some ⟨N,0,none⟩) d.ns.length cc) (.slice (some ⟨O,0,none⟩) d.ns.length oc) xs ks):=x5;clear hok her hd hL hall mi NT c2 x1 x2 x3 x4 x5 x6;go_wp2;refine bodyPost_ret (results_tmp3 (t:=2) (u:=3) (v:=4) rfl _ _ _) rfl ?_;rw[az.o];refine⟨fun ns hh=>?_,fun c p hh=>(by cases hh),?_⟩
     ·have hh:(Except.ok d.ns:Rs (List Tn))=.ok ns:=hh;injection hh with hh
      subst hh;rw[dQ.o];exact⟨N,cc,_,xs,ks,d.own,_,rfl,E5.o⟩
     ·have hb:=fQ.o;rw[<-dQ.o]at hb;exact Dy hb
open Go.RowKit Go.Extern.Stop Go.Stop Go.Extern
theorem Iu(v:Value)(w:World):(ReflectliteType.typeOf #[.iface 317 v]).run prog w=.ok (.iface 219 (.agg #[.pointer (some ⟨14,317,none⟩)])) w:=by kernel_rfl
def Iw:Array Value->Sem Value:=ReflectliteType.method fun t=>do Rtype.noPackHeld "Comparable" t;pure (.bool (<-typeInfo t).comparable)
theorem NU(w:World):(Iw #[.agg #[.pointer (some ⟨14,317,none⟩)]]).run prog w=.ok (.bool true) w:=by kernel_rfl
theorem NV(v:Value)(w:World):(Go.method 446 219 v "Comparable").run prog w=.ok (276,v) w:=by kernel_rfl
theorem NW:(prog.info? 317).map (·.comparable)=some true:=by kernel_rfl
theorem NY:(prog.info? 319).map (·.size)=some 1:=by kernel_rfl
theorem Va(v:Value)(xT:TypeId)(w:World):(Instr.typeAssert (.iface 317 v) xT 230 true).run prog w=.ok (.tuple #[.nilIface,.bool false]) w:=run_typeAssert_lacksB underlying230 (by kernel_rfl) (by kernel_rfl) v xT w
theorem NZ(v:Value)(xT:TypeId)(w:World):(Instr.typeAssert (.iface 317 v) xT 226 true).run prog w=.ok (.tuple #[.nilIface,.bool false]) w:=run_typeAssert_lacksB underlying226 (by kernel_rfl) (by kernel_rfl) v xT w
theorem N7(v:Value)(xT:TypeId)(w:World):(Instr.typeAssert (.iface 317 v) xT 227 true).run prog w=.ok (.tuple #[.nilIface,.bool false]) w:=run_typeAssert_lacksB underlying227 (by kernel_rfl) (by kernel_rfl) v xT w
theorem ac4(v:Value)(xT:TypeId)(w:World):(Instr.typeAssert (.iface 317 v) xT 223 true).run prog w=.ok (.tuple #[.nilIface,.bool false]) w:=run_typeAssert_lacksB underlying223 (by kernel_rfl) (by kernel_rfl) v xT w
theorem Vb(v:Value)(xT:TypeId)(w:World):(Instr.typeAssert (.iface 130 v) xT 230 true).run prog w=.ok (.tuple #[.nilIface,.bool false]) w:=run_typeAssert_lacksB underlying230 (by kernel_rfl) (by kernel_rfl) v xT w
theorem Vd(v:Value)(xT:TypeId)(w:World):(Instr.typeAssert (.iface 130 v) xT 226 true).run prog w=.ok (.tuple #[.iface 130 v,.bool true]) w:=run_typeAssert_hasB underlying226 (by kernel_rfl) v xT w
theorem Ve(v:Value)(w:World):(Go.method 446 130 v "Unwrap").run prog w=.ok (270,v) w:=by kernel_rfl
theorem is_same(a:Addr)(w:World):Calls prog 74 #[.iface 317 (.pointer (some a)),.iface 317 (.pointer (some a))] w fun e w'=>e=.returned (.bool true)/\w'=w:=by
 obtain⟨i,hi,hcmp⟩:=Option.map_eq_some_iff.1 NW;obtain⟨j,hj,hjs⟩:=Option.map_eq_some_iff.1 NY;have h8:=@run_callFunc_extern prog 114 _ ReflectliteType.typeOf func114 (by kernel_rfl) (by kernel_rfl) (by kernel_rfl) (by kernel_rfl);have h32:=@run_callFunc_extern prog 276 _ Iw func276 (by kernel_rfl) (by kernel_rfl) (by kernel_rfl) (by kernel_rfl);have tT:=Iu;have cT:=NU;have mR:=NV;have heq:=run_eql_iface_ptr_same (P:=prog) w a underlying94 underlying317 hi hcmp hj;go_enter func74,ntmps74;go_wp2;refine wp_loop_rounds 1 ?_;rw[rounds_succ];go_wp2;go_ret;exact⟨rfl,rfl⟩
theorem ac5(F:Nat)(b:Addr)(w:World)(h1:w.cell? ⟨F,1,none⟩=some (.iface 317 (.pointer (some b)))) :
  Calls prog 74 #[.iface 130 (.pointer (some ⟨F,0,none⟩)),.iface 317 (.pointer (some b))] w fun e w'=>e=.returned (.bool true)/\w'=w:=by
 obtain⟨i,hi,hcmp⟩:=Option.map_eq_some_iff.1 NW;obtain⟨j,hj,hjs⟩:=Option.map_eq_some_iff.1 NY;have h8:=@run_callFunc_extern prog 114 _ ReflectliteType.typeOf func114 (by kernel_rfl) (by kernel_rfl) (by kernel_rfl) (by kernel_rfl);have h32:=@run_callFunc_extern prog 276 _ Iw func276 (by kernel_rfl) (by kernel_rfl) (by kernel_rfl) (by kernel_rfl);have tT:=Iu;have cT:=NU;have mR:=NV;have nE:=Va;have uE:=NZ;have vE:=N7;have nW:=Vb;have uW:=Vd;have mU:=Ve;have heq:=run_eql_iface_ptr_same (P:=prog) w b underlying94 underlying317 hi hcmp hj;have hty:=run_eql_iface_types (P:=prog) 130 317 (.pointer (some ⟨F,0,none⟩)) (.pointer (some b)) underlying94 (by decide) w;go_enter func74,ntmps74;go_wp2;refine wp_loop_rounds 2 ?_;rw[rounds_succ];go_wp2;rw[rounds_succ];go_wp2
 go_ret;exact⟨rfl,rfl⟩
theorem ac6(F:Nat)(b a:Addr)(ca cb:Array Value)(ta tb:TypeId)(w:World)(h1:w.cell? ⟨F,1,none⟩=some (.iface 317 (.pointer (some a))))(hne:a≠b)(ha:w.heap[a.block]?=some (.cells ca ta (0,0)))(hb:w.heap[b.block]?=some (.cells cb tb (0,0))) :
  Calls prog 74 #[.iface 130 (.pointer (some ⟨F,0,none⟩)),.iface 317 (.pointer (some b))] w fun e w'=>e=.returned (.bool false)/\w'=w:=by
 obtain⟨i,hi,hcmp⟩:=Option.map_eq_some_iff.1 NW;obtain⟨j,hj,hjs⟩:=Option.map_eq_some_iff.1 NY;have h8:=@run_callFunc_extern prog 114 _ ReflectliteType.typeOf func114 (by kernel_rfl) (by kernel_rfl) (by kernel_rfl) (by kernel_rfl);have h32:=@run_callFunc_extern prog 276 _ Iw func276 (by kernel_rfl) (by kernel_rfl) (by kernel_rfl) (by kernel_rfl);have tT:=Iu;have cT:=NU;have mR:=NV;have nE:=Va;have uE:=NZ;have vE:=N7;have nW:=Vb;have uW:=Vd;have mU:=Ve;have heq:=run_eql_iface_ptr_other (P:=prog) w underlying94 underlying317 hi hcmp hj (by rw[hjs];decide) hne ha hb;have hty:=run_eql_iface_types (P:=prog) 130 317 (.pointer (some ⟨F,0,none⟩)) (.pointer (some b)) underlying94 (by decide) w;go_enter func74,ntmps74;go_wp2;refine wp_loop_rounds 2 ?_;rw[rounds_succ]
 go_wp2;rw[rounds_succ];go_wp2;go_ret;exact⟨rfl,rfl⟩
end Go.Proofs.YtnnbgjaphfhibaaGreatDoor
