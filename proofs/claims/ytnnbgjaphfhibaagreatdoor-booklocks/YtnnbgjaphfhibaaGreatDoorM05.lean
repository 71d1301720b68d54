import Derived.Test.YtnnbgjaphfhibaaGreatDoorM04
import Derived.Test.YtnnbgjaphfhibaaGreatDoorM03
import Derived.Shelf.Small.Wraps
import Derived.Shelf.Strings.Trim
import Derived.Shelf.Strings.Search2
import Derived.Test.YtnnbgjaphfhibaaGreatDoorProg
import Derived.Test.YtnnbgjaphfhibaaGreatDoorM01
import Derived.Laws.AppendOwn
import Derived.Deep.RegionLaw
import Derived.Deep.AppendLies
import Derived.Below
import Derived.Deep.RegionHeld3
set_option linter.unusedVariables false
set_option linter.unusedSimpArgs false
set_option maxRecDepth 100000
set_option maxHeartbeats 6400000
open Go.Proofs.Tryz
namespace Go.Proofs.YtnnbgjaphfhibaaGreatDoor
open Go.RowKit
def VR(v:Nat)(y1 y2 y3:Int)(x4 x5:ByteArray)(w:World):Prop:=w.heap[v]?=some (.cells #[.int .i64 y1,.int .i64 y2,.int .i64 y3,.string x4,.string x5] 182 (0,0))
theorem VR.cells{v:Nat}{y1 y2 y3:Int}{x4 x5:ByteArray}{w:World}(h:VR v y1 y2 y3 x4 x5 w):w.cell? ⟨v,0,none⟩=some (.int .i64 y1)/\w.cell? ⟨v,1,none⟩=some (.int .i64 y2)/\w.cell? ⟨v,2,none⟩=some (.int .i64 y3)/\w.cell? ⟨v,3,none⟩=some (.string x4)/\w.cell? ⟨v,4,none⟩=some (.string x5) :=
 ⟨by rw[af h];rfl,by rw[af h];rfl,by rw[af h];rfl,by rw[af h];rfl,by rw[af h];rfl⟩
theorem VR.f{v:Nat}{y1 y2 y3:Int}{x4 x5:ByteArray}{w:World}(h:VR v y1 y2 y3 x4 x5 w)(o:Nat):w.frozen? ⟨v,o,none⟩=false:=Lib.frozen_of_heap h o
theorem VR.grow{b v:Nat}{y1 y2 y3:Int}{x4 x5:ByteArray}{w w':World}(h:VR v y1 y2 y3 x4 x5 w)(hg:w.grownBy w' (some b))(hn:v≠b):VR v y1 y2 y3 x4 x5 w':=by
 unfold VR at h ⊢;rw[hg.block v ((jU h)) (by simpa using hn)];exact h
theorem VR.set3{v:Nat}{y1 y2 y3:Int}{x4 x5:ByteArray}{w:World}(h:VR v y1 y2 y3 x4 x5 w)(z:ByteArray):VR v y1 y2 y3 z x5 (w.setCell ⟨v,3,none⟩ (.string z)):=by
 unfold VR at h ⊢;simp[World.setCell,Array.getElem?_modify,h]
theorem VR.set4{v:Nat}{y1 y2 y3:Int}{x4 x5:ByteArray}{w:World}(h:VR v y1 y2 y3 x4 x5 w)(z:ByteArray):VR v y1 y2 y3 x4 z (w.setCell ⟨v,4,none⟩ (.string z)):=by
 unfold VR at h ⊢;simp[World.setCell,Array.getElem?_modify,h]
theorem VR.other{v u:Nat}{y1 y2 y3:Int}{x4 x5:ByteArray}{w:World}(h:VR v y1 y2 y3 x4 x5 w)(hn:v≠u)(o:Nat)(x:Value):VR v y1 y2 y3 x4 x5 (w.setCell ⟨u,o,none⟩ x):=by
 unfold VR at h ⊢;rw[<-h];exact heap_setCell_other w _ v x hn
theorem vK{w:World}{A:Nat}{z1 z2 z3:Int}{z4 z5:ByteArray}(h:VR A z1 z2 z3 z4 z5 w)(y1 y2 y3:Int)(x4 x5:ByteArray):VR A y1 y2 y3 x4 x5 (tX w A y1 y2 y3 x4 x5):=by
 unfold VR at h ⊢;unfold tX;simp[World.setCell,Array.getElem?_modify,h]
theorem VS.other{b v:Nat}{s:ByteArray}{i:Nat}{E:Int}{a:Nat}{w:World}(h:VS b s i E a w)(hn:b≠v)(o:Nat)(x:Value):VS b s i E a (w.setCell ⟨v,o,none⟩ x):=by
 unfold VS at h ⊢;rw[<-h];exact heap_setCell_other w _ b x hn
theorem G2.set1{b v:Nat}{w w1:World}(h:G2 b v w w1)(o:Nat)(x:Value):G2 b v w (w1.setCell ⟨b,o,none⟩ x) :=
 ⟨h.os,h.tape,h.output,by simpa [World.setCell] using h.size,fun k hk h1 h2=>by rw[<-h.block k hk h1 h2];exact heap_setCell_other w1 _ k x (fun e=>h1 e)⟩
def JC(b v:Nat)(s:ByteArray)(i:Nat)(y1 y2 y3:Int)(w w':World):Prop :=
 ∃(j:Nat) (E:Int) (c:Nat) (P B:ByteArray),VS b s j E c w'/\VR v y1 y2 y3 P B w'/\G2 b v w w'/\E=(aS s.data.toList i).1/\(E=0->P=⟨(aS s.data.toList i).2.2.1.toArray⟩/\B=⟨(aS s.data.toList i).2.2.2.toArray⟩/\j=(aS s.data.toList i).2.1/\j<=s.size)/\(E≠0->c=(aS s.data.toList i).2.1)
theorem AQ(b v:Nat)(s:ByteArray)(i:Nat)(E:Int)(hE:E≠0)(a:Nat)(w:World)(h:VS b s i E a w) :
  Calls prog 165 #[.pointer (some ⟨b,0,none⟩),.pointer (some ⟨v,0,none⟩)] w fun e w'=>e=.returned (.tuple #[])/\∃n,w'=w.drewN n:=by
 have h0:=h.c0;have h1:=h.c1;have h2:=h.c2;have HR:Hd (VS b s i E a w):=h;have hn:(E == 0)=false:=by simpa using hE
 clear h hE;go_enter func165,ntmps165;go_wp2;go_quiet (fail);go_wp2;obtain⟨W,hW⟩:=zN (w.drewN nq);have HW:Hd (W=w.drewN nq):=hW.symm;have e0:W.cell? ⟨b,0,none⟩=some (.string s):=by rw[<-hW];exact h0
 have e1:W.cell? ⟨b,1,none⟩=some (.int .i64 (i:Int)):=by rw[<-hW];exact h1
 have e2:W.cell? ⟨b,2,none⟩=some (.int .i64 E):=by rw[<-hW];exact h2
 rw[hW];clear hW h0 h1 h2;go_quiet (fail);go_wp2
 go_end0
 exact⟨rfl,_,by rw[HW.o,World.drewN_drewN]⟩
theorem Yj(b v:Nat)(s:ByteArray)(i:Nat)(a:Nat)(y1 y2 y3:Int)(w:World)(hi:i<=s.size)(h:VS b s i 0 a w)(hv:VR v y1 y2 y3 ⟨#[]⟩ ⟨#[]⟩ w)(hbv:b≠v)(hs:s.size<2 ^ 62) :
  Calls prog 165 #[.pointer (some ⟨b,0,none⟩),.pointer (some ⟨v,0,none⟩)] w fun e w'=>e=.returned (.tuple #[])/\JC b v s i y1 y2 y3 w w':=by
 have jD:Hd (s.data.toList.length=s.size):=by show s.data.toList.length=s.size;simp
 have PP:Hd (∀st i a w,i<=s.size->VS b s i 0 a w->Calls prog 204 #[.pointer (some ⟨b,0,none⟩),.bool st] w (JA st b s i w)):=fun st i a w hi h=>Yi st b s i a w hi h hs
 have HI:Hd (VS b s i 0 a w):=h;have JD:Hd (VR v y1 y2 y3 ⟨#[]⟩ ⟨#[]⟩ w):=hv;have bW:Hd (b≠v):=hbv;have jv:Hd (i<=s.size):=hi;have HS:Hd (s.size<2 ^ 62):=hs;have GET:Hd (∀i,(h:i<s.size)->s.data.toList[i]?=some s[i]):=fun i h=>kJ s i h
 have g0:=h.c0;have g1:=h.c1;have g2:=h.c2;clear h hv hbv hi hs;go_enter func165,ntmps165
 by_cases hlt1:i<s.size
 ·have hl2:((i:Nat):Int)<(s.size:Int):=by omega
  cases hc1:((s[i].toNat:Int) == 45) with
  | true =>
   have lG:Hd (s.data.toList[i]?=some 45):=by
    show s.data.toList[i]?=some 45;rw[GET.o _ hlt1,show s[i]=45 from UInt8.toNat_inj.1 (by have:=eq_of_beq hc1;have e:(45:UInt8).toNat=45:=rfl;omega)]
   have Qj:Hd (i<s.size):=hlt1;go_wp2;go_quiet (fail);obtain⟨U1,hU⟩:∃U,(w).drewN nq=U:=⟨_,rfl⟩;have fF:Hd (VS b s (i) 0 a U1):=by show VS _ _ _ _ _ U1;rw[<-hU];exact HI.o.drew _
   have vM:Hd (VR v y1 y2 y3 ⟨#[]⟩ ⟨#[]⟩ U1):=by show VR _ _ _ _ _ _ U1;rw[<-hU];exact JD.o
   have vN:Hd (G2 b v w U1):=by show G2 b v w U1;rw[<-hU];exact(G2.refl b v w).drew _
   have k0:=fF.o.c0;have k1:=fF.o.c1;have k2:=fF.o.c2;have kf:=fF.o.f1
   try rw[hU]
   clear hU g0 g1 g2;clear hc1;have xH:=vG (st:=true) lG.o;have hw:IntKind.i64.wrap ((i:Int)+1)=((i+1:Nat):Int):=by rw[IntKind.wrap_i64];have:=HS.o;have:=Qj.o;omega
   have JE:Hd (bC 45 true s.data.toList (i)=((aC true s.data.toList (i+1)).1,(aC true s.data.toList (i+1)).2,fZ true s.data.toList (i+1))):=xH;clear xH;go_wp2_with (go_at_call 204;refine(PP.o true (i+1) _ _ Qj.o (fF.o.set1 (i+1))).mono ?_);rintro e u1 ⟨V1,j1,E1,c1,rfl,hvs,hg,hE,hok,herr⟩;have jF:Hd (VS b s j1 E1 c1 u1):=hvs;have JF:Hd (VR v y1 y2 y3 ⟨#[]⟩ ⟨#[]⟩ u1):=(vM.o.other (Ne.symm bW.o) _ _).grow hg (Ne.symm bW.o);have Yk:Hd (G2 b v w u1):=(vN.o.set1 _ _).step hg;have kT:Hd (E1=(aC true s.data.toList (i+1)).1/\(E1=0->V1=⟨(ag s.data.toList (i+1) (j1-(i+1))).toArray⟩/\j1=(aC true s.data.toList (i+1)).2/\j1<=s.size)/\(E1≠0->c1=(aC true s.data.toList (i+1)).2)):=⟨hE,hok,herr⟩;have kv:=JF.o.f;obtain⟨q0,q1,q2,q3,q4⟩:=JF.o.cells;clear hvs hg hE hok herr k0 k1 k2 kf hw;obtain⟨W1,hW⟩:∃W,u1.setCell ⟨v,3,none⟩ (.string V1)=W:=⟨_,rfl⟩
   have HW1:Hd (VS b s j1 E1 c1 W1):=by show VS _ _ _ _ _ W1;rw[<-hW];exact jF.o.other bW.o _ _
   have EX:Hd (VR v y1 y2 y3 V1 ⟨#[]⟩ W1):=by show VR _ _ _ _ _ _ W1;rw[<-hW];exact JF.o.set3 _
   have EY:Hd (G2 b v w W1):=by show G2 b v w W1;rw[<-hW];exact Yk.o.set _ _
   go_wp2
   try rw[hW]
   clear hW kv q0 q1 q2 q3 q4;have g0:=HW1.o.c0;have g1:=HW1.o.c1;have g2:=HW1.o.c2
   cases hz:(E1 == 0) with
   | false =>
    have HZ:Hd (¬E1=0):=by show ¬E1=0;simpa using hz
    go_quiet (fail);go_wp2
    go_end0
    refine⟨rfl,j1,E1,c1,V1,⟨#[]⟩,HW1.o.drew _,EX.o,EY.o.drew _,?_,fun h=>absurd h HZ.o,fun _=>?_⟩
    ·have h9:¬(aC true s.data.toList (i+1)).1=0:=fun e=>HZ.o (kT.o.1.trans e)
     unfold aS;rw[JE.o];simp only[if_neg h9];exact kT.o.1
    ·have h9:¬(aC true s.data.toList (i+1)).1=0:=fun e=>HZ.o (kT.o.1.trans e)
     unfold aS;rw[JE.o];simp only[if_neg h9];exact kT.o.2.2 HZ.o
   | true =>
    have h0:E1=0:=by simpa using hz
    subst h0;clear hz;have HK:Hd (V1=⟨(ag s.data.toList (i+1) (j1-(i+1))).toArray⟩/\j1=(aC true s.data.toList (i+1)).2/\j1<=s.size):=kT.o.2.1 rfl;have EZ:Hd (j1<=s.size):=HK.o.2.2;have ig:Hd (bC 45 true s.data.toList (i)=(0,j1,ag s.data.toList (i+1) (j1-(i+1)))):=by
     show bC 45 true s.data.toList i=_;have h9:=kT.o.1.symm;rw[JE.o,h9,HK.o.2.1];unfold fZ;rw[if_pos h9]
    have lF:Hd (V1=⟨(ag s.data.toList (i+1) (j1-(i+1))).toArray⟩):=HK.o.1;clear kT
    by_cases hlt3:j1<s.size
    ·have hl2:((j1:Nat):Int)<(s.size:Int):=by omega
     cases hc3:((s[j1].toNat:Int) == 43) with
     | true =>
      have AU:Hd (s.data.toList[j1]?=some 43):=by
       show s.data.toList[j1]?=some 43;rw[GET.o _ hlt3,show s[j1]=43 from UInt8.toNat_inj.1 (by have:=eq_of_beq hc3;have e:(43:UInt8).toNat=43:=rfl;omega)]
      have Qk:Hd (j1<s.size):=hlt3
      try go_wp2
      go_quiet (fail);obtain⟨U3,hU⟩:∃U,(W1).drewN nq=U:=⟨_,rfl⟩;have iQ:Hd (VS b s (j1) 0 c1 U3):=by show VS _ _ _ _ _ U3;rw[<-hU];exact HW1.o.drew _
      have AV:Hd (VR v y1 y2 y3 V1 ⟨#[]⟩ U3):=by show VR _ _ _ _ _ _ U3;rw[<-hU];exact EX.o
      have AX:Hd (G2 b v w U3):=by show G2 b v w U3;rw[<-hU];exact EY.o.drew _
      have k0:=iQ.o.c0;have k1:=iQ.o.c1;have k2:=iQ.o.c2;have kf:=iQ.o.f1
      try rw[hU]
      clear hU g0 g1 g2;clear hc3;have hO2:=vG (st:=false) AU.o;have fJ:Hd (bC 43 false s.data.toList (j1)=((aC false s.data.toList (j1+1)).1,(aC false s.data.toList (j1+1)).2,fZ false s.data.toList (j1+1))):=hO2;clear hO2;have hw:IntKind.i64.wrap (((j1:Nat):Int)+1)=((j1+1:Nat):Int):=by rw[IntKind.wrap_i64];have:=HS.o;have:=Qk.o;omega
      go_wp2_with (go_at_call 204;refine(PP.o false (j1+1) _ _ Qk.o (iQ.o.set1 (j1+1))).mono ?_);rintro e u3 ⟨V3,j3,E3,c3,rfl,hvs,hg,hE,hok,herr⟩;have HF3:Hd (VS b s j3 E3 c3 u3):=hvs;have JG:Hd (VR v y1 y2 y3 V1 ⟨#[]⟩ u3):=(AV.o.other (Ne.symm bW.o) _ _).grow hg (Ne.symm bW.o);have Yl:Hd (G2 b v w u3):=(AX.o.set1 _ _).step hg;have jK:Hd (E3=(aC false s.data.toList (j1+1)).1/\(E3=0->V3=⟨(ag s.data.toList (j1+1) (j3-(j1+1))).toArray⟩/\j3=(aC false s.data.toList (j1+1)).2/\j3<=s.size)/\(E3≠0->c3=(aC false s.data.toList (j1+1)).2)):=⟨hE,hok,herr⟩;have kv:=JG.o.f;obtain⟨q0,q1,q2,q3,q4⟩:=JG.o.cells;clear hvs hg hE hok herr k0 k1 k2 kf hw;go_wp2
      go_end0
      refine⟨rfl,j3,E3,c3,V1,V3,HF3.o.other bW.o _ _,JG.o.set4 _,Yl.o.set _ _,?_,?_,?_⟩
      ·rw[jK.o.1];unfold aS;rw[ig.o];simp only[if_true];rw[fJ.o];simp only;split<;>simp_all
      ·intro h0;obtain⟨e1,e2,e3⟩:=jK.o.2.1 h0;have h9:=jK.o.1.symm.trans h0;have hp:fZ false s.data.toList (j1+1)=ag s.data.toList (j1+1) ((aC false s.data.toList (j1+1)).2-(j1+1)):=by unfold fZ;rw[if_pos h9]
       unfold aS;rw[ig.o];simp only[if_true];rw[fJ.o];simp only[if_pos h9];exact⟨lF.o,by rw[e1,e2,hp],e2,e3⟩
      ·intro h0;have h9:¬(aC false s.data.toList (j1+1)).1=0:=fun e=>h0 (jK.o.1.trans e)
       unfold aS;rw[ig.o];simp only[if_true];rw[fJ.o];simp only[if_neg h9];exact jK.o.2.2 h0
     | false =>
      have AU:Hd (¬s.data.toList[j1]?=some 43):=by
       show ¬s.data.toList[j1]?=some 43;rw[GET.o _ hlt3];intro e;rw[Option.some.inj e]at hc3;exact absurd hc3 (by decide)
      try go_wp2
      go_quiet (fail);obtain⟨U3,hU⟩:∃U,(W1).drewN nq=U:=⟨_,rfl⟩;have iQ:Hd (VS b s (j1) 0 c1 U3):=by show VS _ _ _ _ _ U3;rw[<-hU];exact HW1.o.drew _
      have AV:Hd (VR v y1 y2 y3 V1 ⟨#[]⟩ U3):=by show VR _ _ _ _ _ _ U3;rw[<-hU];exact EX.o
      have AX:Hd (G2 b v w U3):=by show G2 b v w U3;rw[<-hU];exact EY.o.drew _
      have k0:=iQ.o.c0;have k1:=iQ.o.c1;have k2:=iQ.o.c2;have kf:=iQ.o.f1
      try rw[hU]
      clear hU g0 g1 g2;clear hc3;have fJ:Hd (bC 43 false s.data.toList (j1)=(0,j1,[])):=qE AU.o;go_wp2
      go_end0
      refine⟨rfl,j1,0,_,V1,⟨#[]⟩,iQ.o,AV.o,AX.o,?_,?_,fun h=>absurd rfl h⟩
      ·unfold aS;rw[ig.o];simp only[if_true];rw[fJ.o];simp only[if_true]
      ·intro _;unfold aS;rw[ig.o];simp only[if_true];rw[fJ.o];simp only[if_true];exact⟨lF.o,by first|trivial|rfl,by first|trivial|rfl,EZ.o⟩
    ·have hl2:decide (((j1:Nat):Int)<(s.size:Int))=false:=by simp;omega
     have AU:Hd (¬s.data.toList[j1]?=some 43):=by
      show ¬s.data.toList[j1]?=some 43;intro e;have:=(List.getElem?_eq_some_iff.1 e).1;rw[jD.o]at this;exact hlt3 this
     try go_wp2
     go_quiet (fail);obtain⟨U3,hU⟩:∃U,(W1).drewN nq=U:=⟨_,rfl⟩;have iQ:Hd (VS b s (j1) 0 c1 U3):=by show VS _ _ _ _ _ U3;rw[<-hU];exact HW1.o.drew _
     have AV:Hd (VR v y1 y2 y3 V1 ⟨#[]⟩ U3):=by show VR _ _ _ _ _ _ U3;rw[<-hU];exact EX.o
     have AX:Hd (G2 b v w U3):=by show G2 b v w U3;rw[<-hU];exact EY.o.drew _
     have k0:=iQ.o.c0;have k1:=iQ.o.c1;have k2:=iQ.o.c2;have kf:=iQ.o.f1
     try rw[hU]
     clear hU g0 g1 g2;clear hl2 hlt3;have fJ:Hd (bC 43 false s.data.toList (j1)=(0,j1,[])):=qE AU.o;go_wp2
     go_end0
     refine⟨rfl,j1,0,_,V1,⟨#[]⟩,iQ.o,AV.o,AX.o,?_,?_,fun h=>absurd rfl h⟩
     ·unfold aS;rw[ig.o];simp only[if_true];rw[fJ.o];simp only[if_true]
     ·intro _;unfold aS;rw[ig.o];simp only[if_true];rw[fJ.o];simp only[if_true];exact⟨lF.o,by first|trivial|rfl,by first|trivial|rfl,EZ.o⟩
  | false =>
   have lG:Hd (¬s.data.toList[i]?=some 45):=by
    show ¬s.data.toList[i]?=some 45;rw[GET.o _ hlt1];intro e;rw[Option.some.inj e]at hc1;exact absurd hc1 (by decide)
   go_wp2;go_quiet (fail);obtain⟨U1,hU⟩:∃U,(w).drewN nq=U:=⟨_,rfl⟩;have fF:Hd (VS b s (i) 0 a U1):=by show VS _ _ _ _ _ U1;rw[<-hU];exact HI.o.drew _
   have vM:Hd (VR v y1 y2 y3 ⟨#[]⟩ ⟨#[]⟩ U1):=by show VR _ _ _ _ _ _ U1;rw[<-hU];exact JD.o
   have vN:Hd (G2 b v w U1):=by show G2 b v w U1;rw[<-hU];exact(G2.refl b v w).drew _
   have k0:=fF.o.c0;have k1:=fF.o.c1;have k2:=fF.o.c2;have kf:=fF.o.f1
   try rw[hU]
   clear hU g0 g1 g2;clear hc1;have ig:Hd (bC 45 true s.data.toList (i)=(0,i,[])):=qE lG.o;have HJ2:Hd (i<=s.size):=jv.o;have g0:=fF.o.c0;have g1:=fF.o.c1;have g2:=fF.o.c2;clear k0 k1 k2 kf
   by_cases hlt2:i<s.size
   ·have hl2:((i:Nat):Int)<(s.size:Int):=by omega
    cases hc2:((s[i].toNat:Int) == 43) with
    | true =>
     have HC2:Hd (s.data.toList[i]?=some 43):=by
      show s.data.toList[i]?=some 43;rw[GET.o _ hlt2,show s[i]=43 from UInt8.toNat_inj.1 (by have:=eq_of_beq hc2;have e:(43:UInt8).toNat=43:=rfl;omega)]
     have AY:Hd (i<s.size):=hlt2
     try go_wp2
     go_quiet (fail);obtain⟨U2,hU⟩:∃U,(U1).drewN nq=U:=⟨_,rfl⟩;have eH:Hd (VS b s (i) 0 a U2):=by show VS _ _ _ _ _ U2;rw[<-hU];exact fF.o.drew _
     have tY:Hd (VR v y1 y2 y3 ⟨#[]⟩ ⟨#[]⟩ U2):=by show VR _ _ _ _ _ _ U2;rw[<-hU];exact vM.o
     have tZ:Hd (G2 b v w U2):=by show G2 b v w U2;rw[<-hU];exact vN.o.drew _
     have k0:=eH.o.c0;have k1:=eH.o.c1;have k2:=eH.o.c2;have kf:=eH.o.f1
     try rw[hU]
     clear hU g0 g1 g2;clear hc2;have hO2:=vG (st:=false) HC2.o;have fJ:Hd (bC 43 false s.data.toList (i)=((aC false s.data.toList (i+1)).1,(aC false s.data.toList (i+1)).2,fZ false s.data.toList (i+1))):=hO2;clear hO2;have hw:IntKind.i64.wrap (((i:Nat):Int)+1)=((i+1:Nat):Int):=by rw[IntKind.wrap_i64];have:=HS.o;have:=AY.o;omega
     go_wp2_with (go_at_call 204;refine(PP.o false (i+1) _ _ AY.o (eH.o.set1 (i+1))).mono ?_);rintro e u2 ⟨V2,j2,E2,c2,rfl,hvs,hg,hE,hok,herr⟩;have HF2:Hd (VS b s j2 E2 c2 u2):=hvs;have xM:Hd (VR v y1 y2 y3 ⟨#[]⟩ ⟨#[]⟩ u2):=(tY.o.other (Ne.symm bW.o) _ _).grow hg (Ne.symm bW.o);have JH:Hd (G2 b v w u2):=(tZ.o.set1 _ _).step hg;have eY:Hd (E2=(aC false s.data.toList (i+1)).1/\(E2=0->V2=⟨(ag s.data.toList (i+1) (j2-(i+1))).toArray⟩/\j2=(aC false s.data.toList (i+1)).2/\j2<=s.size)/\(E2≠0->c2=(aC false s.data.toList (i+1)).2)):=⟨hE,hok,herr⟩;have kv:=xM.o.f;obtain⟨q0,q1,q2,q3,q4⟩:=xM.o.cells;clear hvs hg hE hok herr k0 k1 k2 kf hw;go_wp2
     go_end0
     refine⟨rfl,j2,E2,c2,⟨#[]⟩,V2,HF2.o.other bW.o _ _,xM.o.set4 _,JH.o.set _ _,?_,?_,?_⟩
     ·rw[eY.o.1];unfold aS;rw[ig.o];simp only[if_true];rw[fJ.o];simp only;split<;>simp_all
     ·intro h0;obtain⟨e1,e2,e3⟩:=eY.o.2.1 h0;have h9:=eY.o.1.symm.trans h0;have hp:fZ false s.data.toList (i+1)=ag s.data.toList (i+1) ((aC false s.data.toList (i+1)).2-(i+1)):=by unfold fZ;rw[if_pos h9]
      unfold aS;rw[ig.o];simp only[if_true];rw[fJ.o];simp only[if_pos h9];exact⟨by first|trivial|rfl,by rw[e1,e2,hp],e2,e3⟩
     ·intro h0;have h9:¬(aC false s.data.toList (i+1)).1=0:=fun e=>h0 (eY.o.1.trans e)
      unfold aS;rw[ig.o];simp only[if_true];rw[fJ.o];simp only[if_neg h9];exact eY.o.2.2 h0
    | false =>
     have HC2:Hd (¬s.data.toList[i]?=some 43):=by
      show ¬s.data.toList[i]?=some 43;rw[GET.o _ hlt2];intro e;rw[Option.some.inj e]at hc2;exact absurd hc2 (by decide)
     try go_wp2
     go_quiet (fail);obtain⟨U2,hU⟩:∃U,(U1).drewN nq=U:=⟨_,rfl⟩;have eH:Hd (VS b s (i) 0 a U2):=by show VS _ _ _ _ _ U2;rw[<-hU];exact fF.o.drew _
     have tY:Hd (VR v y1 y2 y3 ⟨#[]⟩ ⟨#[]⟩ U2):=by show VR _ _ _ _ _ _ U2;rw[<-hU];exact vM.o
     have tZ:Hd (G2 b v w U2):=by show G2 b v w U2;rw[<-hU];exact vN.o.drew _
     have k0:=eH.o.c0;have k1:=eH.o.c1;have k2:=eH.o.c2;have kf:=eH.o.f1
     try rw[hU]
     clear hU g0 g1 g2;clear hc2;have fJ:Hd (bC 43 false s.data.toList (i)=(0,i,[])):=qE HC2.o;go_wp2
     go_end0
     refine⟨rfl,i,0,_,⟨#[]⟩,⟨#[]⟩,eH.o,tY.o,tZ.o,?_,?_,fun h=>absurd rfl h⟩
     ·unfold aS;rw[ig.o];simp only[if_true];rw[fJ.o];simp only[if_true]
     ·intro _;unfold aS;rw[ig.o];simp only[if_true];rw[fJ.o];simp only[if_true];exact⟨by first|trivial|rfl,by first|trivial|rfl,by first|trivial|rfl,HJ2.o⟩
   ·exact absurd hlt1 hlt2
 ·have hl2:decide (((i:Nat):Int)<(s.size:Int))=false:=by simp;omega
  have lG:Hd (¬s.data.toList[i]?=some 45):=by
   show ¬s.data.toList[i]?=some 45;intro e;have:=(List.getElem?_eq_some_iff.1 e).1;rw[jD.o]at this;exact hlt1 this
  go_wp2;go_quiet (fail);obtain⟨U1,hU⟩:∃U,(w).drewN nq=U:=⟨_,rfl⟩;have fF:Hd (VS b s (i) 0 a U1):=by show VS _ _ _ _ _ U1;rw[<-hU];exact HI.o.drew _
  have vM:Hd (VR v y1 y2 y3 ⟨#[]⟩ ⟨#[]⟩ U1):=by show VR _ _ _ _ _ _ U1;rw[<-hU];exact JD.o
  have vN:Hd (G2 b v w U1):=by show G2 b v w U1;rw[<-hU];exact(G2.refl b v w).drew _
  have k0:=fF.o.c0;have k1:=fF.o.c1;have k2:=fF.o.c2;have kf:=fF.o.f1
  try rw[hU]
  clear hU g0 g1 g2;clear hl2 hlt1;have ig:Hd (bC 45 true s.data.toList (i)=(0,i,[])):=qE lG.o;have HJ2:Hd (i<=s.size):=jv.o;have g0:=fF.o.c0;have g1:=fF.o.c1;have g2:=fF.o.c2;clear k0 k1 k2 kf
  by_cases hlt2:i<s.size
  ·have hl2:((i:Nat):Int)<(s.size:Int):=by omega
   cases hc2:((s[i].toNat:Int) == 43) with
   | true =>
    have HC2:Hd (s.data.toList[i]?=some 43):=by
     show s.data.toList[i]?=some 43;rw[GET.o _ hlt2,show s[i]=43 from UInt8.toNat_inj.1 (by have:=eq_of_beq hc2;have e:(43:UInt8).toNat=43:=rfl;omega)]
    have AY:Hd (i<s.size):=hlt2
    try go_wp2
    go_quiet (fail);obtain⟨U2,hU⟩:∃U,(U1).drewN nq=U:=⟨_,rfl⟩;have eH:Hd (VS b s (i) 0 a U2):=by show VS _ _ _ _ _ U2;rw[<-hU];exact fF.o.drew _
    have tY:Hd (VR v y1 y2 y3 ⟨#[]⟩ ⟨#[]⟩ U2):=by show VR _ _ _ _ _ _ U2;rw[<-hU];exact vM.o
    have tZ:Hd (G2 b v w U2):=by show G2 b v w U2;rw[<-hU];exact vN.o.drew _
    have k0:=eH.o.c0;have k1:=eH.o.c1;have k2:=eH.o.c2;have kf:=eH.o.f1
    try rw[hU]
    clear hU g0 g1 g2;clear hc2;have hO2:=vG (st:=false) HC2.o;have fJ:Hd (bC 43 false s.data.toList (i)=((aC false s.data.toList (i+1)).1,(aC false s.data.toList (i+1)).2,fZ false s.data.toList (i+1))):=hO2;clear hO2;have hw:IntKind.i64.wrap (((i:Nat):Int)+1)=((i+1:Nat):Int):=by rw[IntKind.wrap_i64];have:=HS.o;have:=AY.o;omega
    go_wp2_with (go_at_call 204;refine(PP.o false (i+1) _ _ AY.o (eH.o.set1 (i+1))).mono ?_);rintro e u2 ⟨V2,j2,E2,c2,rfl,hvs,hg,hE,hok,herr⟩;have HF2:Hd (VS b s j2 E2 c2 u2):=hvs;have xM:Hd (VR v y1 y2 y3 ⟨#[]⟩ ⟨#[]⟩ u2):=(tY.o.other (Ne.symm bW.o) _ _).grow hg (Ne.symm bW.o);have JH:Hd (G2 b v w u2):=(tZ.o.set1 _ _).step hg;have eY:Hd (E2=(aC false s.data.toList (i+1)).1/\(E2=0->V2=⟨(ag s.data.toList (i+1) (j2-(i+1))).toArray⟩/\j2=(aC false s.data.toList (i+1)).2/\j2<=s.size)/\(E2≠0->c2=(aC false s.data.toList (i+1)).2)):=⟨hE,hok,herr⟩;have kv:=xM.o.f;obtain⟨q0,q1,q2,q3,q4⟩:=xM.o.cells;clear hvs hg hE hok herr k0 k1 k2 kf hw;go_wp2
    go_end0
    refine⟨rfl,j2,E2,c2,⟨#[]⟩,V2,HF2.o.other bW.o _ _,xM.o.set4 _,JH.o.set _ _,?_,?_,?_⟩
    ·rw[eY.o.1];unfold aS;rw[ig.o];simp only[if_true];rw[fJ.o];simp only;split<;>simp_all
    ·intro h0;obtain⟨e1,e2,e3⟩:=eY.o.2.1 h0;have h9:=eY.o.1.symm.trans h0;have hp:fZ false s.data.toList (i+1)=ag s.data.toList (i+1) ((aC false s.data.toList (i+1)).2-(i+1)):=by unfold fZ;rw[if_pos h9]
     unfold aS;rw[ig.o];simp only[if_true];rw[fJ.o];simp only[if_pos h9];exact⟨by first|trivial|rfl,by rw[e1,e2,hp],e2,e3⟩
    ·intro h0;have h9:¬(aC false s.data.toList (i+1)).1=0:=fun e=>h0 (eY.o.1.trans e)
     unfold aS;rw[ig.o];simp only[if_true];rw[fJ.o];simp only[if_neg h9];exact eY.o.2.2 h0
   | false =>
    have HC2:Hd (¬s.data.toList[i]?=some 43):=by
     show ¬s.data.toList[i]?=some 43;rw[GET.o _ hlt2];intro e;rw[Option.some.inj e]at hc2;exact absurd hc2 (by decide)
    try go_wp2
    go_quiet (fail);obtain⟨U2,hU⟩:∃U,(U1).drewN nq=U:=⟨_,rfl⟩;have eH:Hd (VS b s (i) 0 a U2):=by show VS _ _ _ _ _ U2;rw[<-hU];exact fF.o.drew _
    have tY:Hd (VR v y1 y2 y3 ⟨#[]⟩ ⟨#[]⟩ U2):=by show VR _ _ _ _ _ _ U2;rw[<-hU];exact vM.o
    have tZ:Hd (G2 b v w U2):=by show G2 b v w U2;rw[<-hU];exact vN.o.drew _
    have k0:=eH.o.c0;have k1:=eH.o.c1;have k2:=eH.o.c2;have kf:=eH.o.f1
    try rw[hU]
    clear hU g0 g1 g2;clear hc2;have fJ:Hd (bC 43 false s.data.toList (i)=(0,i,[])):=qE HC2.o;go_wp2
    go_end0
    refine⟨rfl,i,0,_,⟨#[]⟩,⟨#[]⟩,eH.o,tY.o,tZ.o,?_,?_,fun h=>absurd rfl h⟩
    ·unfold aS;rw[ig.o];simp only[if_true];rw[fJ.o];simp only[if_true]
    ·intro _;unfold aS;rw[ig.o];simp only[if_true];rw[fJ.o];simp only[if_true];exact⟨by first|trivial|rfl,by first|trivial|rfl,by first|trivial|rfl,HJ2.o⟩
  ·have hl2:decide (((i:Nat):Int)<(s.size:Int))=false:=by simp;omega
   have HC2:Hd (¬s.data.toList[i]?=some 43):=by
    show ¬s.data.toList[i]?=some 43;intro e;have:=(List.getElem?_eq_some_iff.1 e).1;rw[jD.o]at this;exact hlt2 this
   try go_wp2
   go_quiet (fail);obtain⟨U2,hU⟩:∃U,(U1).drewN nq=U:=⟨_,rfl⟩;have eH:Hd (VS b s (i) 0 a U2):=by show VS _ _ _ _ _ U2;rw[<-hU];exact fF.o.drew _
   have tY:Hd (VR v y1 y2 y3 ⟨#[]⟩ ⟨#[]⟩ U2):=by show VR _ _ _ _ _ _ U2;rw[<-hU];exact vM.o
   have tZ:Hd (G2 b v w U2):=by show G2 b v w U2;rw[<-hU];exact vN.o.drew _
   have k0:=eH.o.c0;have k1:=eH.o.c1;have k2:=eH.o.c2;have kf:=eH.o.f1
   try rw[hU]
   clear hU g0 g1 g2;clear hl2 hlt2;have fJ:Hd (bC 43 false s.data.toList (i)=(0,i,[])):=qE HC2.o;go_wp2
   go_end0
   refine⟨rfl,i,0,_,⟨#[]⟩,⟨#[]⟩,eH.o,tY.o,tZ.o,?_,?_,fun h=>absurd rfl h⟩
   ·unfold aS;rw[ig.o];simp only[if_true];rw[fJ.o];simp only[if_true]
   ·intro _;unfold aS;rw[ig.o];simp only[if_true];rw[fJ.o];simp only[if_true];exact⟨by first|trivial|rfl,by first|trivial|rfl,by first|trivial|rfl,HJ2.o⟩
open Go.RowKit
structure RV(w:World)(A:Nat)(s:ByteArray)(j:Nat)(E:Int)(c:Nat)(y1 y2 y3:Int)(P B:ByteArray)(u:World):Prop where
 vs:VS (A+1) s j E c u
 vr:VR (A+2) y1 y2 y3 P B u
 vz:VR A 0 0 0 ⟨#[]⟩ ⟨#[]⟩ u
 gb:w.grownBy u none
 le:w.heap.size<=A
theorem RV.drew{w:World}{A:Nat}{s:ByteArray}{j:Nat}{E:Int}{c:Nat}{y1 y2 y3:Int}{P B:ByteArray}{u:World}(h:RV w A s j E c y1 y2 y3 P B u)(n:Nat):RV w A s j E c y1 y2 y3 P B (u.drewN n) :=
 ⟨h.vs.drew n,h.vr,h.vz,aj h.gb n,h.le⟩
theorem RV.call{w:World}{A:Nat}{s:ByteArray}{j:Nat}{E:Int}{c:Nat}{y1 y2 y3:Int}{P B:ByteArray}{u u':World}(h:RV w A s j E c y1 y2 y3 P B u)(hg:u.grownBy u' (some (A+1))){j':Nat}{E':Int}{c':Nat}(hv:VS (A+1) s j' E' c' u'):RV w A s j' E' c' y1 y2 y3 P B u' :=
 ⟨hv,h.vr.grow hg (by omega),h.vz.grow hg (by omega),⟨hg.os.trans h.gb.os,hg.tape.trans h.gb.tape,hg.output.trans h.gb.output,Nat.le_trans h.gb.size hg.size,fun k hk _=>(hg.block k (Nat.lt_of_lt_of_le hk h.gb.size) (by have:=h.le;simp;omega)).trans (h.gb.block k hk (by simp))⟩,h.le⟩
theorem RV.two{w:World}{A:Nat}{s:ByteArray}{j:Nat}{E:Int}{c:Nat}{y1 y2 y3:Int}{P B:ByteArray}{u u':World}(h:RV w A s j E c y1 y2 y3 P B u)(hg:G2 (A+1) (A+2) u u'){j':Nat}{E':Int}{c':Nat}{P' B':ByteArray}(hv:VS (A+1) s j' E' c' u')(hr:VR (A+2) y1 y2 y3 P' B' u'):RV w A s j' E' c' y1 y2 y3 P' B' u' :=
 ⟨hv,hr,by have:=h.vz;unfold VR at this ⊢;rw[hg.block A ((jU this)) (by omega) (by omega)];exact this,⟨hg.os.trans h.gb.os,hg.tape.trans h.gb.tape,hg.output.trans h.gb.output,Nat.le_trans h.gb.size hg.size,fun k hk _=>(hg.block k (Nat.lt_of_lt_of_le hk h.gb.size) (by have:=h.le;omega) (by have:=h.le;omega)).trans (h.gb.block k hk (by simp))⟩,h.le⟩
theorem VR.set0{v:Nat}{y1 y2 y3:Int}{x4 x5:ByteArray}{w:World}(h:VR v y1 y2 y3 x4 x5 w)(z:Int):VR v z y2 y3 x4 x5 (w.setCell ⟨v,0,none⟩ (.int .i64 z)):=by
 unfold VR at h ⊢;simp[World.setCell,Array.getElem?_modify,h]
theorem VR.set1{v:Nat}{y1 y2 y3:Int}{x4 x5:ByteArray}{w:World}(h:VR v y1 y2 y3 x4 x5 w)(z:Int):VR v y1 z y3 x4 x5 (w.setCell ⟨v,1,none⟩ (.int .i64 z)):=by
 unfold VR at h ⊢;simp[World.setCell,Array.getElem?_modify,h]
theorem VR.set2{v:Nat}{y1 y2 y3:Int}{x4 x5:ByteArray}{w:World}(h:VR v y1 y2 y3 x4 x5 w)(z:Int):VR v y1 y2 z x4 x5 (w.setCell ⟨v,2,none⟩ (.int .i64 z)):=by
 unfold VR at h ⊢;simp[World.setCell,Array.getElem?_modify,h]
theorem RV.put0{w:World}{A:Nat}{s:ByteArray}{j:Nat}{E:Int}{c:Nat}{y1 y2 y3:Int}{P B:ByteArray}{u:World}(h:RV w A s j E c y1 y2 y3 P B u)(x:Int):RV w A s j E c x y2 y3 P B (u.setCell ⟨A+2,0,none⟩ (.int .i64 x)) :=
 ⟨h.vs.other (by omega) _ _,h.vr.set0 x,h.vz.other (by omega) _ _,vH h.gb (by have:=h.le;omega) _ _,h.le⟩
theorem RV.put1{w:World}{A:Nat}{s:ByteArray}{j:Nat}{E:Int}{c:Nat}{y1 y2 y3:Int}{P B:ByteArray}{u:World}(h:RV w A s j E c y1 y2 y3 P B u)(x:Int):RV w A s j E c y1 x y3 P B (u.setCell ⟨A+2,1,none⟩ (.int .i64 x)) :=
 ⟨h.vs.other (by omega) _ _,h.vr.set1 x,h.vz.other (by omega) _ _,vH h.gb (by have:=h.le;omega) _ _,h.le⟩
theorem RV.put2{w:World}{A:Nat}{s:ByteArray}{j:Nat}{E:Int}{c:Nat}{y1 y2 y3:Int}{P B:ByteArray}{u:World}(h:RV w A s j E c y1 y2 y3 P B u)(x:Int):RV w A s j E c y1 y2 x P B (u.setCell ⟨A+2,2,none⟩ (.int .i64 x)) :=
 ⟨h.vs.other (by omega) _ _,h.vr.set2 x,h.vz.other (by omega) _ _,vH h.gb (by have:=h.le;omega) _ _,h.le⟩
theorem RV.born(w:World)(s:ByteArray):RV w w.heap.size s 0 0 0 0 0 0 ⟨#[]⟩ ⟨#[]⟩ (((w.alloc (.cells #[.int .i64 0,.int .i64 0,.int .i64 0,.string ⟨#[]⟩,.string ⟨#[]⟩] 182)).alloc (.cells #[.string s,.int .i64 0,.int .i64 0,.int .i64 0] 237)).alloc (.cells #[.int .i64 0,.int .i64 0,.int .i64 0,.string ⟨#[]⟩,.string ⟨#[]⟩] 182)):=by
 refine⟨?_,?_,?_,dw (dw (dw (ax w none) _) _) _,Nat.le_refl _⟩
 ·unfold VS;rw[Lib.alloc_old _ _ _ (by simp)];exact ER w _ _
 ·unfold VR;have:=ER (w.alloc (.cells #[.int .i64 0,.int .i64 0,.int .i64 0,.string ⟨#[]⟩,.string ⟨#[]⟩] 182)) (.cells #[.string s,.int .i64 0,.int .i64 0,.int .i64 0] 237) (.cells #[.int .i64 0,.int .i64 0,.int .i64 0,.string ⟨#[]⟩,.string ⟨#[]⟩] 182);simpa using this
 ·unfold VR;rw[Lib.alloc_old _ _ _ (by simp;omega),Lib.alloc_old _ _ _ (by simp)];exact heap_alloc_new w _
theorem Ym(s:ByteArray)(w:World)(hs:s.size<2 ^ 62) :
  Calls prog 125 #[.string s] w fun e w'=>e=.returned (.tuple #[Qd (kH s.data.toList).2.2,.int .i64 (kH s.data.toList).1,.int .i64 ((kH s.data.toList).2.1:Nat)])/\w.grownBy w' none:=by
 by_cases h100:100<s.size
 ·have hp:kH s.data.toList=(1,0,zeroV):=by unfold kH;rw[if_pos (by simpa using h100)]
  rw[hp];clear hp;go_enter func125,ntmps125;go_wp2;exact bodyPost_ret (pg (p:=2) (u:=3) (r:=4) rfl _ _ w.heap.size _ _ (0,0) _ rfl (heap_alloc_new w _) underlying182 rfl (by kernel_rfl)) rfl ⟨rfl,dw (ax w none) _⟩
 ·have hp:kH s.data.toList=eQ s.data.toList:=by unfold kH;rw[if_neg (by simpa using h100)]
  rw[hp];clear hp;obtain⟨l,hl⟩:∃l,l=s.data.toList:=⟨_,rfl⟩;have HL:Hd (l=s.data.toList/\l.length=s.size):=⟨hl,by rw[hl];simp⟩;have CN:Hd (∀b i a w,i<=s.size->VS b s i 0 a w->Calls prog 163 #[.pointer (some ⟨b,0,none⟩)] w (Jy b s i w)):=fun b i a w hi h=>Yg b s i a w hi h hs
  have MY:Hd (∀b i a w,l[i]?=some 46->VS b s i 0 a w->Calls prog 164 #[.pointer (some ⟨b,0,none⟩),.int .u8 46] w fun e w'=>e=.returned (.tuple #[])/\VS b s (i+1) 0 a w'/\w.grownBy w' (some b)):=fun b i a w hc h=>Yd b s i 0 a 46 w (by rw[<-hl];exact hc) h hs
  have MN:Hd (∀b i a w,i<=s.size->¬l[i]?=some 46->VS b s i 0 a w->Calls prog 164 #[.pointer (some ⟨b,0,none⟩),.int .u8 46] w fun e w'=>e=.returned (.tuple #[])/\VS b s i 2 i w'/\w.grownBy w' (some b)):=fun b i a w hi hc h=>Ye b s i a 46 w hi (by rw[<-hl];exact hc) h hs
  have CT:Hd (∀b v i a y1 y2 y3 w,i<=s.size->VS b s i 0 a w->VR v y1 y2 y3 ⟨#[]⟩ ⟨#[]⟩ w->b≠v->Calls prog 165 #[.pointer (some ⟨b,0,none⟩),.pointer (some ⟨v,0,none⟩)] w fun e w'=>e=.returned (.tuple #[])/\JC b v s i y1 y2 y3 w w'):=fun b v i a y1 y2 y3 w hi h1 h2 h3=>Yj b v s i a y1 y2 y3 w hi h1 h2 h3 hs
  have HB:Hd (RV w w.heap.size s 0 0 0 0 0 0 ⟨#[]⟩ ⟨#[]⟩ (((w.alloc (.cells #[.int .i64 0,.int .i64 0,.int .i64 0,.string ⟨#[]⟩,.string ⟨#[]⟩] 182)).alloc (.cells #[.string s,.int .i64 0,.int .i64 0,.int .i64 0] 237)).alloc (.cells #[.int .i64 0,.int .i64 0,.int .i64 0,.string ⟨#[]⟩,.string ⟨#[]⟩] 182))):=RV.born w s;have qG:=Qc l;have hnr:=P8 l;obtain⟨R,hR⟩:=zN (bQ l);obtain⟨X,hX⟩:=zN (eQ l);rw[hR]at qG hnr;rw[hX]at qG;rw[<-hl,hX];have HV:Hd (X=if R.1=0 then(if(aS l R.2.1).1=0 then(if(aS l R.2.1).2.1<l.length then(2,(aS l R.2.1).2.1,zeroV) else(0,0,⟨R.2.2.1,R.2.2.2.1,R.2.2.2.2,(aS l R.2.1).2.2.1,(aS l R.2.1).2.2.2⟩)) else((aS l R.2.1).1,(aS l R.2.1).2.1,zeroV)) else(R.1,R.2.1,zeroV)):=qG;have HR0:Hd (R=if(rdNum l 0).1=0 then o8 l (rdNum l 0).2.2 (rdNum l 0).2.1 else((rdNum l 0).1,(rdNum l 0).2.2,0,0,0)):=hnr
  have HS:Hd (s.size<2 ^ 62):=hs;clear hl qG hnr hR hX hs;go_enter func125,ntmps125;go_wp2_with (go_at_call 163;refine(CN.o _ 0 0 _ (Nat.zero_le _) HB.o.vs).mono ?_);rintro e u1 ⟨x1,j1,E1,c1,rfl,hvs,hg,hE,hok,herr⟩;obtain⟨A,hA⟩:=zN (w.heap.size);rw[hA]at HB hvs hg;rw[hA];have HA1:Hd (RV w A s j1 E1 c1 0 0 0 ⟨#[]⟩ ⟨#[]⟩ u1):=HB.o.call hg hvs;have kT:Hd (E1=(rdNum l 0).1/\(E1=0->x1=(rdNum l 0).2.1/\j1=(rdNum l 0).2.2/\j1<=s.size)/\(E1≠0->c1=(rdNum l 0).2.2)):=by rw[HL.o.1];exact⟨hE,hok,herr⟩
  clear hA hvs hg hE hok herr HB;obtain⟨U1,JI⟩:∃U,u1.setCell ⟨A+2,0,none⟩ (.int .i64 x1)=U:=⟨_,rfl⟩;have fF:Hd (RV w A s j1 E1 c1 x1 0 0 ⟨#[]⟩ ⟨#[]⟩ U1):=by show RV _ _ _ _ _ _ _ _ _ _ _ U1;rw[<-JI];exact HA1.o.put0 x1
  obtain⟨q0,q1,q2,q3,q4⟩:=HA1.o.vr.cells;have qf:=HA1.o.vr.f;have f0:=fF.o.vs.c0;have f1:=fF.o.vs.c1;have f2:=fF.o.vs.c2;have f3:=fF.o.vs.c3
  cases hz1:(E1 == 0) with
  | false =>
   have HZ:Hd (E1≠0):=by show E1≠0;simpa using hz1
   have FIN:Hd (X=(E1,c1,zeroV)):=by
    show X=_;have h9:¬(rdNum l 0).1=0:=fun e=>HZ.o (kT.o.1.trans e)
    have hr:=HR0.o;rw[if_neg h9,<-kT.o.1,<-kT.o.2.2 HZ.o]at hr;rw[HV.o,hr,if_neg HZ.o]
   go_wp2_with (go_at_call 165;refine(AQ (A+1) (A+2) s j1 E1 HZ.o c1 _ fF.o.vs).mono ?_);rintro e t1 ⟨rfl,n,hn⟩;have HT:Hd (RV w A s j1 E1 c1 x1 0 0 ⟨#[]⟩ ⟨#[]⟩ t1):=by show RV _ _ _ _ _ _ _ _ _ _ _ t1;rw[hn];exact fF.o.drew n
   clear hn f0 f1 f2 f3;have f0:=HT.o.vs.c0;have f1:=HT.o.vs.c1;have f2:=HT.o.vs.c2;have f3:=HT.o.vs.c3;obtain⟨z0,z1,z2,z3,z4⟩:=HT.o.vz.cells;have zf:=HT.o.vz.f;go_wp2
   go_region
   go_wp2;refine bodyPost_ret (pg (p:=2) (u:=3) (r:=4) rfl _ _ A _ _ (0,0) _ rfl (vK HT.o.vz 0 0 0 ⟨#[]⟩ ⟨#[]⟩) underlying182 rfl (by kernel_rfl)) rfl ⟨?_,aj (rP HT.o.gb HT.o.le 0 0 0 ⟨#[]⟩ ⟨#[]⟩) 1⟩;rw[FIN.o];rfl
  | true =>
   have h0:E1=0:=by simpa using hz1
   subst h0;clear hz1;have qF:Hd (j1<=s.size):=(kT.o.2.1 rfl).2.2;have HR1:Hd (R=o8 l j1 x1):=by
    show R=_;obtain⟨e1,e2,-⟩:=kT.o.2.1 rfl;have hr:=HR0.o;rw[if_pos kT.o.1.symm,<-e1,<-e2]at hr;exact hr
   clear kT HR0
   cases hc1:decide (l[j1]?=some 46) with
   | false =>
    have hc':=of_decide_eq_false hc1;have HZ:Hd ((2:Int)≠0):=by show(2:Int)≠0;decide
    have FIN:Hd (X=(2,j1,zeroV)):=by
     show X=_;have hr:=HR1.o;unfold o8 at hr;rw[if_neg hc']at hr;rw[HV.o,hr];rfl
    have CM:Hd (Calls prog 164 #[.pointer (some ⟨A+1,0,none⟩),.int .u8 46] U1 fun e w'=>e=.returned (.tuple #[])/\VS (A+1) s j1 2 j1 w'/\U1.grownBy w' (some (A+1))):=MN.o _ _ _ _ qF.o hc' fF.o.vs;clear hc1 hc';go_wp2_with (go_at_call 164;refine CM.o.mono ?_);rintro e v1 ⟨rfl,hvs,hg⟩;have HM:Hd (RV w A s j1 2 j1 x1 0 0 ⟨#[]⟩ ⟨#[]⟩ v1):=fF.o.call hg hvs;clear hvs hg f0 f1 f2 f3 q0 q1 q2 q3 q4 qf JI;have f0:=HM.o.vs.c0;have f1:=HM.o.vs.c1;have f2:=HM.o.vs.c2;have f3:=HM.o.vs.c3;go_wp2_with (go_at_call 165;refine(AQ (A+1) (A+2) s j1 2 HZ.o j1 _ HM.o.vs).mono ?_);rintro e t1 ⟨rfl,n,hn⟩;have HT:Hd (RV w A s j1 2 j1 x1 0 0 ⟨#[]⟩ ⟨#[]⟩ t1):=by show RV _ _ _ _ _ _ _ _ _ _ _ t1;rw[hn];exact HM.o.drew n
    clear hn f0 f1 f2 f3;have f0:=HT.o.vs.c0;have f1:=HT.o.vs.c1;have f2:=HT.o.vs.c2;have f3:=HT.o.vs.c3;obtain⟨z0,z1,z2,z3,z4⟩:=HT.o.vz.cells;have zf:=HT.o.vz.f;go_wp2
    go_region
    go_wp2;refine bodyPost_ret (pg (p:=2) (u:=3) (r:=4) rfl _ _ A _ _ (0,0) _ rfl (vK HT.o.vz 0 0 0 ⟨#[]⟩ ⟨#[]⟩) underlying182 rfl (by kernel_rfl)) rfl ⟨?_,aj (rP HT.o.gb HT.o.le 0 0 0 ⟨#[]⟩ ⟨#[]⟩) 1⟩;rw[FIN.o];rfl
   | true =>
    have hc':=of_decide_eq_true hc1;have HRn:Hd (R=if(rdNum l (j1+1)).1=0 then qC l (rdNum l (j1+1)).2.2 x1 (rdNum l (j1+1)).2.1 else((rdNum l (j1+1)).1,(rdNum l (j1+1)).2.2,0,0,0)):=by
     show R=_;have hr:=HR1.o;unfold o8 at hr;rw[if_pos hc']at hr;exact hr
    have o9:Hd (j1+1<=s.size):=by have:=(List.getElem?_eq_some_iff.1 hc').1;rw[HL.o.2]at this;exact this
    have CM:Hd (Calls prog 164 #[.pointer (some ⟨A+1,0,none⟩),.int .u8 46] U1 fun e w'=>e=.returned (.tuple #[])/\VS (A+1) s (j1+1) 0 c1 w'/\U1.grownBy w' (some (A+1))):=MY.o _ _ _ _ hc' fF.o.vs;clear hc1 hc';go_wp2_with (go_at_call 164;refine CM.o.mono ?_);rintro e v2 ⟨rfl,hvs,hg⟩;have lV:Hd (RV w A s (j1+1) 0 c1 x1 0 0 ⟨#[]⟩ ⟨#[]⟩ v2):=fF.o.call hg hvs;clear hvs hg f0 f1 f2 f3 q0 q1 q2 q3 q4 qf JI HR1 CM;have f0:=lV.o.vs.c0;have f1:=lV.o.vs.c1;have f2:=lV.o.vs.c2;have f3:=lV.o.vs.c3;go_wp2_with (go_at_call 163;refine(CN.o _ (j1+1) c1 _ o9.o lV.o.vs).mono ?_);rintro e u2 ⟨x2,j2,E2,c2,rfl,hvs,hg,hE,hok,herr⟩;have HA2:Hd (RV w A s j2 E2 c2 x1 0 0 ⟨#[]⟩ ⟨#[]⟩ u2):=lV.o.call hg hvs;have eY:Hd (E2=(rdNum l (j1+1)).1/\(E2=0->x2=(rdNum l (j1+1)).2.1/\j2=(rdNum l (j1+1)).2.2/\j2<=s.size)/\(E2≠0->c2=(rdNum l (j1+1)).2.2)):=by rw[HL.o.1];exact⟨hE,hok,herr⟩
    clear hvs hg hE hok herr f0 f1 f2 f3;obtain⟨U2,JJ⟩:∃U,u2.setCell ⟨A+2,1,none⟩ (.int .i64 x2)=U:=⟨_,rfl⟩;have eH:Hd (RV w A s j2 E2 c2 x1 x2 0 ⟨#[]⟩ ⟨#[]⟩ U2):=by show RV _ _ _ _ _ _ _ _ _ _ _ U2;rw[<-JJ];exact HA2.o.put1 x2
    obtain⟨q0,q1,q2,q3,q4⟩:=HA2.o.vr.cells;have qf:=HA2.o.vr.f;have f0:=eH.o.vs.c0;have f1:=eH.o.vs.c1;have f2:=eH.o.vs.c2;have f3:=eH.o.vs.c3
    cases hz2:(E2 == 0) with
    | false =>
     have HZ:Hd (E2≠0):=by show E2≠0;simpa using hz2
     have FIN:Hd (X=(E2,c2,zeroV)):=by
      show X=_;have h9:¬(rdNum l (j1+1)).1=0:=fun e=>HZ.o (eY.o.1.trans e)
      have hr:=HRn.o;rw[if_neg h9,<-eY.o.1,<-eY.o.2.2 HZ.o]at hr;rw[HV.o,hr,if_neg HZ.o]
     go_wp2_with (go_at_call 165;refine(AQ (A+1) (A+2) s j2 E2 HZ.o c2 _ eH.o.vs).mono ?_);rintro e t1 ⟨rfl,n,hn⟩;have HT:Hd (RV w A s j2 E2 c2 x1 x2 0 ⟨#[]⟩ ⟨#[]⟩ t1):=by show RV _ _ _ _ _ _ _ _ _ _ _ t1;rw[hn];exact eH.o.drew n
     clear hn f0 f1 f2 f3;have f0:=HT.o.vs.c0;have f1:=HT.o.vs.c1;have f2:=HT.o.vs.c2;have f3:=HT.o.vs.c3;obtain⟨z0,z1,z2,z3,z4⟩:=HT.o.vz.cells;have zf:=HT.o.vz.f;go_wp2
     go_region
     go_wp2;refine bodyPost_ret (pg (p:=2) (u:=3) (r:=4) rfl _ _ A _ _ (0,0) _ rfl (vK HT.o.vz 0 0 0 ⟨#[]⟩ ⟨#[]⟩) underlying182 rfl (by kernel_rfl)) rfl ⟨?_,aj (rP HT.o.gb HT.o.le 0 0 0 ⟨#[]⟩ ⟨#[]⟩) 1⟩;rw[FIN.o];rfl
    | true =>
     have h0:E2=0:=by simpa using hz2
     subst h0;clear hz2;have HJ2:Hd (j2<=s.size):=(eY.o.2.1 rfl).2.2;have HR2:Hd (R=qC l j2 x1 x2):=by
      show R=_;obtain⟨e1,e2,-⟩:=eY.o.2.1 rfl;have hr:=HRn.o;rw[if_pos eY.o.1.symm,<-e1,<-e2]at hr;exact hr
     clear eY HRn
     cases hc2:decide (l[j2]?=some 46) with
     | false =>
      have hc':=of_decide_eq_false hc2;have HZ:Hd ((2:Int)≠0):=by show(2:Int)≠0;decide
      have FIN:Hd (X=(2,j2,zeroV)):=by
       show X=_;have hr:=HR2.o;unfold qC at hr;rw[if_neg hc']at hr;rw[HV.o,hr];rfl
      have CM:Hd (Calls prog 164 #[.pointer (some ⟨A+1,0,none⟩),.int .u8 46] U2 fun e w'=>e=.returned (.tuple #[])/\VS (A+1) s j2 2 j2 w'/\U2.grownBy w' (some (A+1))):=MN.o _ _ _ _ HJ2.o hc' eH.o.vs;clear hc2 hc';go_wp2_with (go_at_call 164;refine CM.o.mono ?_);rintro e v1 ⟨rfl,hvs,hg⟩;have HM:Hd (RV w A s j2 2 j2 x1 x2 0 ⟨#[]⟩ ⟨#[]⟩ v1):=eH.o.call hg hvs;clear hvs hg f0 f1 f2 f3 q0 q1 q2 q3 q4 qf JJ;have f0:=HM.o.vs.c0;have f1:=HM.o.vs.c1;have f2:=HM.o.vs.c2;have f3:=HM.o.vs.c3;go_wp2_with (go_at_call 165;refine(AQ (A+1) (A+2) s j2 2 HZ.o j2 _ HM.o.vs).mono ?_);rintro e t1 ⟨rfl,n,hn⟩;have HT:Hd (RV w A s j2 2 j2 x1 x2 0 ⟨#[]⟩ ⟨#[]⟩ t1):=by show RV _ _ _ _ _ _ _ _ _ _ _ t1;rw[hn];exact HM.o.drew n
      clear hn f0 f1 f2 f3;have f0:=HT.o.vs.c0;have f1:=HT.o.vs.c1;have f2:=HT.o.vs.c2;have f3:=HT.o.vs.c3;obtain⟨z0,z1,z2,z3,z4⟩:=HT.o.vz.cells;have zf:=HT.o.vz.f;go_wp2
      go_region
      go_wp2;refine bodyPost_ret (pg (p:=2) (u:=3) (r:=4) rfl _ _ A _ _ (0,0) _ rfl (vK HT.o.vz 0 0 0 ⟨#[]⟩ ⟨#[]⟩) underlying182 rfl (by kernel_rfl)) rfl ⟨?_,aj (rP HT.o.gb HT.o.le 0 0 0 ⟨#[]⟩ ⟨#[]⟩) 1⟩;rw[FIN.o];rfl
     | true =>
      have hc':=of_decide_eq_true hc2;have HRn:Hd (R=if(rdNum l (j2+1)).1=0 then xG l (rdNum l (j2+1)).2.2 x1 x2 (rdNum l (j2+1)).2.1 else((rdNum l (j2+1)).1,(rdNum l (j2+1)).2.2,0,0,0)):=by
       show R=_;have hr:=HR2.o;unfold qC at hr;rw[if_pos hc']at hr;exact hr
      have o9:Hd (j2+1<=s.size):=by have:=(List.getElem?_eq_some_iff.1 hc').1;rw[HL.o.2]at this;exact this
      have CM:Hd (Calls prog 164 #[.pointer (some ⟨A+1,0,none⟩),.int .u8 46] U2 fun e w'=>e=.returned (.tuple #[])/\VS (A+1) s (j2+1) 0 c2 w'/\U2.grownBy w' (some (A+1))):=MY.o _ _ _ _ hc' eH.o.vs;clear hc2 hc';go_wp2_with (go_at_call 164;refine CM.o.mono ?_);rintro e v3 ⟨rfl,hvs,hg⟩;have lW:Hd (RV w A s (j2+1) 0 c2 x1 x2 0 ⟨#[]⟩ ⟨#[]⟩ v3):=eH.o.call hg hvs;clear hvs hg f0 f1 f2 f3 q0 q1 q2 q3 q4 qf JJ HR2 CM;have f0:=lW.o.vs.c0;have f1:=lW.o.vs.c1;have f2:=lW.o.vs.c2;have f3:=lW.o.vs.c3;go_wp2_with (go_at_call 163;refine(CN.o _ (j2+1) c2 _ o9.o lW.o.vs).mono ?_);rintro e u3 ⟨x3,j3,E3,c3,rfl,hvs,hg,hE,hok,herr⟩;have JK:Hd (RV w A s j3 E3 c3 x1 x2 0 ⟨#[]⟩ ⟨#[]⟩ u3):=lW.o.call hg hvs;have jK:Hd (E3=(rdNum l (j2+1)).1/\(E3=0->x3=(rdNum l (j2+1)).2.1/\j3=(rdNum l (j2+1)).2.2/\j3<=s.size)/\(E3≠0->c3=(rdNum l (j2+1)).2.2)):=by rw[HL.o.1];exact⟨hE,hok,herr⟩
      clear hvs hg hE hok herr f0 f1 f2 f3;obtain⟨U3,Ql⟩:∃U,u3.setCell ⟨A+2,2,none⟩ (.int .i64 x3)=U:=⟨_,rfl⟩;have iQ:Hd (RV w A s j3 E3 c3 x1 x2 x3 ⟨#[]⟩ ⟨#[]⟩ U3):=by show RV _ _ _ _ _ _ _ _ _ _ _ U3;rw[<-Ql];exact JK.o.put2 x3
      obtain⟨q0,q1,q2,q3,q4⟩:=JK.o.vr.cells;have qf:=JK.o.vr.f;have f0:=iQ.o.vs.c0;have f1:=iQ.o.vs.c1;have f2:=iQ.o.vs.c2;have f3:=iQ.o.vs.c3
      cases hz3:(E3 == 0) with
      | false =>
       have HZ:Hd (E3≠0):=by show E3≠0;simpa using hz3
       have FIN:Hd (X=(E3,c3,zeroV)):=by
        show X=_;have h9:¬(rdNum l (j2+1)).1=0:=fun e=>HZ.o (jK.o.1.trans e)
        have hr:=HRn.o;rw[if_neg h9,<-jK.o.1,<-jK.o.2.2 HZ.o]at hr;rw[HV.o,hr,if_neg HZ.o]
       go_wp2_with (go_at_call 165;refine(AQ (A+1) (A+2) s j3 E3 HZ.o c3 _ iQ.o.vs).mono ?_);rintro e t1 ⟨rfl,n,hn⟩;have HT:Hd (RV w A s j3 E3 c3 x1 x2 x3 ⟨#[]⟩ ⟨#[]⟩ t1):=by show RV _ _ _ _ _ _ _ _ _ _ _ t1;rw[hn];exact iQ.o.drew n
       clear hn f0 f1 f2 f3;have f0:=HT.o.vs.c0;have f1:=HT.o.vs.c1;have f2:=HT.o.vs.c2;have f3:=HT.o.vs.c3;obtain⟨z0,z1,z2,z3,z4⟩:=HT.o.vz.cells;have zf:=HT.o.vz.f;go_wp2
       go_region
       go_wp2;refine bodyPost_ret (pg (p:=2) (u:=3) (r:=4) rfl _ _ A _ _ (0,0) _ rfl (vK HT.o.vz 0 0 0 ⟨#[]⟩ ⟨#[]⟩) underlying182 rfl (by kernel_rfl)) rfl ⟨?_,aj (rP HT.o.gb HT.o.le 0 0 0 ⟨#[]⟩ ⟨#[]⟩) 1⟩;rw[FIN.o];rfl
      | true =>
       have h0:E3=0:=by simpa using hz3
       subst h0;clear hz3;have EZ:Hd (j3<=s.size):=(jK.o.2.1 rfl).2.2;have HR3:Hd (R=xG l j3 x1 x2 x3):=by
        show R=_;obtain⟨e1,e2,-⟩:=jK.o.2.1 rfl;have hr:=HRn.o;rw[if_pos jK.o.1.symm,<-e1,<-e2]at hr;exact hr
       clear jK HRn;have ES:Hd (Calls prog 165 #[.pointer (some ⟨A+1,0,none⟩),.pointer (some ⟨A+2,0,none⟩)] U3 fun e w'=>e=.returned (.tuple #[])/\JC (A+1) (A+2) s j3 x1 x2 x3 U3 w'):=CT.o _ _ _ _ _ _ _ _ EZ.o iQ.o.vs iQ.o.vr (by omega);go_wp2_with (go_at_call 165;refine ES.o.mono ?_);rintro e t1 ⟨rfl,j4,E4,c4,P4,B4,hvs,Qm,hg,hE,hok,herr⟩;have HT:Hd (RV w A s j4 E4 c4 x1 x2 x3 P4 B4 t1):=iQ.o.two hg hvs Qm;have mO:Hd (E4=(aS l j3).1/\(E4=0->P4=⟨(aS l j3).2.2.1.toArray⟩/\B4=⟨(aS l j3).2.2.2.toArray⟩/\j4=(aS l j3).2.1/\j4<=s.size)/\(E4≠0->c4=(aS l j3).2.1)):=by rw[HL.o.1];exact⟨hE,hok,herr⟩
       have JL:Hd (X=if(aS l j3).1=0 then(if(aS l j3).2.1<l.length then(2,(aS l j3).2.1,zeroV) else(0,0,⟨x1,x2,x3,(aS l j3).2.2.1,(aS l j3).2.2.2⟩)) else((aS l j3).1,(aS l j3).2.1,zeroV)):=by
        show X=_;have hr:=HR3.o;unfold xG at hr;rw[HV.o,hr];rfl
       clear hvs Qm hg hE hok herr f0 f1 f2 f3 q0 q1 q2 q3 q4 qf Ql HV HR3
       cases xB:(E4 == 0) with
       | false =>
        have HZ:Hd (E4≠0):=by show E4≠0;simpa using xB
        have FIN:Hd (X=(E4,c4,zeroV)):=by
         show X=_;have h9:¬(aS l j3).1=0:=fun e=>HZ.o (mO.o.1.trans e)
         rw[JL.o,if_neg h9,<-mO.o.1,<-mO.o.2.2 HZ.o]
        have f0:=HT.o.vs.c0;have f1:=HT.o.vs.c1;have f2:=HT.o.vs.c2;have f3:=HT.o.vs.c3;obtain⟨z0,z1,z2,z3,z4⟩:=HT.o.vz.cells;have zf:=HT.o.vz.f;go_wp2
        go_region
        go_wp2;refine bodyPost_ret (pg (p:=2) (u:=3) (r:=4) rfl _ _ A _ _ (0,0) _ rfl (vK HT.o.vz 0 0 0 ⟨#[]⟩ ⟨#[]⟩) underlying182 rfl (by kernel_rfl)) rfl ⟨?_,aj (rP HT.o.gb HT.o.le 0 0 0 ⟨#[]⟩ ⟨#[]⟩) 1⟩;rw[FIN.o];rfl
       | true =>
        have h0:E4=0:=by simpa using xB
        subst h0;clear xB;have uf:Hd (P4=⟨(aS l j3).2.2.1.toArray⟩/\B4=⟨(aS l j3).2.2.2.toArray⟩/\j4=(aS l j3).2.1/\j4<=s.size):=mO.o.2.1 rfl;have E5:Hd (X=if j4<l.length then(2,j4,zeroV) else(0,0,⟨x1,x2,x3,(aS l j3).2.2.1,(aS l j3).2.2.2⟩)):=by
         show X=_;rw[JL.o,if_pos mO.o.1.symm,<-uf.o.2.2.1]
        clear mO JL;have f0:=HT.o.vs.c0;have f1:=HT.o.vs.c1;have f2:=HT.o.vs.c2;have f3:=HT.o.vs.c3
        by_cases hlt:j4<s.size
        ·have hl2:((j4:Nat):Int)<(s.size:Int):=by omega
         have FIN:Hd (X=(2,j4,zeroV)):=by show X=_;rw[E5.o,if_pos (by rw[HL.o.2];exact hlt)]
         go_wp2_with (go_at_call 166;refine(je (A+1) s j4 c4 2 j4 _ HT.o.vs).mono ?_);rintro e t2 ⟨rfl,hvs,hg⟩;have HT3:Hd (RV w A s j4 2 j4 x1 x2 x3 P4 B4 t2):=HT.o.call hg hvs;clear hvs hg f0 f1 f2 f3;have f0:=HT3.o.vs.c0;have f1:=HT3.o.vs.c1;have f2:=HT3.o.vs.c2;have f3:=HT3.o.vs.c3;obtain⟨z0,z1,z2,z3,z4⟩:=HT3.o.vz.cells;have zf:=HT3.o.vz.f;go_wp2
         go_region
         go_wp2;refine bodyPost_ret (pg (p:=2) (u:=3) (r:=4) rfl _ _ A _ _ (0,0) _ rfl (vK HT3.o.vz 0 0 0 ⟨#[]⟩ ⟨#[]⟩) underlying182 rfl (by kernel_rfl)) rfl ⟨?_,aj (rP HT3.o.gb HT3.o.le 0 0 0 ⟨#[]⟩ ⟨#[]⟩) 1⟩;rw[FIN.o];rfl
        ·have hl2:¬((j4:Nat):Int)<(s.size:Int):=by omega
         have FIN:Hd (X=(0,0,⟨x1,x2,x3,(aS l j3).2.2.1,(aS l j3).2.2.2⟩)):=by show X=_;rw[E5.o,if_neg (by rw[HL.o.2];exact hlt)]
         clear hlt;obtain⟨z0,z1,z2,z3,z4⟩:=HT.o.vz.cells;have zf:=HT.o.vz.f;obtain⟨q0,q1,q2,q3,q4⟩:=HT.o.vr.cells;go_wp2;refine bodyPost_ret (pg (p:=2) (u:=3) (r:=4) rfl _ _ A _ _ (0,0) _ rfl (vK HT.o.vz x1 x2 x3 P4 B4) underlying182 rfl (by kernel_rfl)) rfl ⟨?_,rP HT.o.gb HT.o.le x1 x2 x3 P4 B4⟩;rw[FIN.o,uf.o.1,uf.o.2.1];rfl
open Go.RowKit
def Gr(w w':World):Prop:=w.grownBy w' none/\w.drawn<=w'.drawn
theorem Yn(w:World)(e:TypeId)(s:ByteArray):Gr w (Lib.bytesWorld w e s):=⟨I9 w e s,Nat.le_succ w.drawn⟩
end Go.Proofs.YtnnbgjaphfhibaaGreatDoor
namespace Go.Proofs.YtnnbgjaphfhibaaGreatDoor.G
open Go.RowKit
theorem PG(s:ByteArray)(w:World)(hs:s.size<2 ^ 62) :
  Calls prog 236 #[.string s] w fun e w'=>e=.returned (.bool (oq s.data.toList))/\Gr w w':=by
 have kc:=fun(w:World)=>Lib.run_convert_string_bytes (P:=prog) w 9 90 5 s underlying9 underlying90 underlying5
 obtain⟨W,hW⟩:=zN (Lib.bytesWorld w 5 s);have HC:Hd (∀j,(hj:j<s.size)->W.cell? ⟨w.heap.size,j,none⟩=some (.int .u8 (s[j].toNat:Int))):=by
  show ∀j,(hj:j<s.size)->W.cell? ⟨w.heap.size,j,none⟩=some (.int .u8 (s[j].toNat:Int));intro j hj;rw[<-hW,Lib.bytesWorld_cell w _ s j hj];have:s.data.toList.getD j 0=s[j]:=by
   rw[List.getD_eq_getElem?_getD,kJ s j hj];rfl
  rw[this]
 have HG:Hd (Gr w W):=by show Gr w W;rw[<-hW];exact Yn w _ s
 have kw:=kc w;rw[hW]at kw;clear kc hW;go_enter func236,ntmps236;go_wp2
 go_loop [8] (fun i=>∃k:Nat,k<=s.size/\i=.int .i64 k/\∀j,(hj:j<s.size)->j<k->aI s[j]=true) (fun i=>s.size-(intOf i).toNat)
 case atStart=>exact⟨0,Nat.zero_le _,rfl,fun j hj h=>absurd h (by omega)⟩
 case round =>
  obtain⟨k,hk,rfl,hp⟩:=hrel;have HP:Hd (∀j,(hj:j<s.size)->j<k->aI s[j]=true):=hp;clear hp
  by_cases hlt:k<s.size
  ·have ck:=HC.o k hlt
   cases hd:aI s[k] with
   | true =>
    go_wp2_with (go_at_call 224;refine(xy _ _).mono ?_;rintro e w' ⟨rfl,rfl⟩)
    go_round
    case rel =>
     refine⟨k+1,by omega,by go_num,fun j hj hjk=>?_⟩
     by_cases hjk':j<k
     ·exact HP.o j hj hjk'
     ·have e:j=k:=by omega
      subst e;exact hd
    case measure=>simp[intOf];omega
   | false =>
    have HN:Hd (oq s.data.toList=false):=by
     show oq s.data.toList=false;unfold oq;have:s.data.toList.all aI=false:=by
      rw[List.all_eq_false];exact⟨s[k],List.mem_of_getElem? (kJ s k hlt),by simp[hd]⟩
     rw[this,Bool.and_false]
    go_wp2_with (go_at_call 224;refine(xy _ _).mono ?_;rintro e w' ⟨rfl,rfl⟩);go_ret;exact⟨bV HN.o.symm,HG.o⟩
  ·have hks:k=s.size:=by omega
   have HA:Hd (s.data.toList.all aI=true):=by
    show s.data.toList.all aI=true;rw[List.all_eq_true];intro c hc;obtain⟨j,hj,rfl⟩:=List.getElem_of_mem hc;exact HP.o j (by simpa using hj) (by simp at hj;have:s.size=s.data.size:=rfl;omega)
   clear hks hk;go_wp2;go_ret;refine⟨bV ?_,HG.o⟩;unfold oq;rw[Lib.toList_data,HA.o,Bool.and_true]
end Go.Proofs.YtnnbgjaphfhibaaGreatDoor.G
namespace Go.Proofs.YtnnbgjaphfhibaaGreatDoor
open Go.RowKit
def okV(s:ByteArray):Bool:=decide ((kH s.data.toList).1=0)
theorem Yo(s:ByteArray)(w:World)(hs:s.size<2 ^ 62):Calls prog 86 #[.string s] w fun e w'=>e=.returned (.bool (okV s))/\w.grownBy w' none:=by
 have CR:Hd (∀w,Calls prog 125 #[.string s] w fun e w'=>(∃(x1 x2 x3:Int) (x4 x5:ByteArray) (k:Int),e=.returned (.tuple #[.agg #[.int .i64 x1,.int .i64 x2,.int .i64 x3,.string x4,.string x5],.int .i64 (kH s.data.toList).1,.int .i64 k]))/\w.grownBy w' none):=fun w=>(Ym s w hs).mono fun e w' ⟨h1,h2⟩=>⟨⟨_,_,_,_,_,_,h1⟩,h2⟩
 unfold okV;obtain⟨E,hE⟩:=zN ((kH s.data.toList).1);rw[hE]at CR ⊢;clear hE;have hd:decide (E=0)=(E == 0):=by rw[Bool.eq_iff_iff];simp
 rw[hd];clear hd;go_enter func86,ntmps86;go_wp2_with (go_at_call 125;refine(CR.o _).mono ?_);rintro e w1 ⟨⟨x1,x2,x3,x4,x5,k,rfl⟩,hg⟩
 cases hz:(E == 0) with
 | true =>
  go_wp2;go_ret;exact⟨bV hz.symm,ah hg (dw (ax w1 none) _)⟩
 | false =>
  go_wp2;go_ret;exact⟨bV hz.symm,ah hg (dw (ax w1 none) _)⟩
end Go.Proofs.YtnnbgjaphfhibaaGreatDoor
