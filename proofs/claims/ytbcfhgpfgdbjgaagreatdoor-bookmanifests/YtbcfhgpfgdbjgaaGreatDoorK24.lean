import Derived.Test.YtbcfhgpfgdbjgaaGreatDoorK16
set_option linter.all false
set_option maxRecDepth 100000
set_option maxHeartbeats 0
open Go.Proofs.Tryz
namespace Go.Proofs.YtbcfhgpfgdbjgaaGreatDoor
open Go.RowKit
variable{B P s x4 x5:ByteArray}{E E' y1 y2 y3:Int}{A a b c c' i j j' v:Nat}{u u' w:World}
def VR(v:Nat)(y1 y2 y3:Int)(x4 x5:ByteArray)(w:World):Prop:=w.heap[v]?=some (.cells #[.int .i64 y1,.int .i64 y2,.int .i64 y3,.string x4,.string x5] 120 (0,0))
theorem VR.cells(h:VR v y1 y2 y3 x4 x5 w):w.cell? ⟨v,0,none⟩=some (.int .i64 y1)/\w.cell? ⟨v,1,none⟩=some (.int .i64 y2)/\w.cell? ⟨v,2,none⟩=some (.int .i64 y3)/\w.cell? ⟨v,3,none⟩=some (.string x4)/\w.cell? ⟨v,4,none⟩=some (.string x5) :=
 ⟨by rw[aj h];rfl,by rw[aj h];rfl,by rw[aj h];rfl,by rw[aj h];rfl,by rw[aj h];rfl⟩
theorem VR.f(h:VR v y1 y2 y3 x4 x5 w)(o:Nat):w.frozen? ⟨v,o,none⟩=false:=Lib.frozen_of_heap h o
theorem VR.grow{w':World}(h:VR v y1 y2 y3 x4 x5 w)(hg:w.grownBy w' (some b))(hn:v≠b):VR v y1 y2 y3 x4 x5 w':=by
 unfold VR at h ⊢;rw[hg.block v ((bJ h)) (by simpa using hn)];exact h
theorem VR.set3(h:VR v y1 y2 y3 x4 x5 w)(z:ByteArray):VR v y1 y2 y3 z x5 (w.setCell ⟨v,3,none⟩ (.string z)):=by
 unfold VR at h ⊢;simp[World.setCell,Array.getElem?_modify,h]
theorem VR.set4(h:VR v y1 y2 y3 x4 x5 w)(z:ByteArray):VR v y1 y2 y3 x4 z (w.setCell ⟨v,4,none⟩ (.string z)):=by
 unfold VR at h ⊢;simp[World.setCell,Array.getElem?_modify,h]
theorem VR.other{u:Nat}(h:VR v y1 y2 y3 x4 x5 w)(hn:v≠u)(o:Nat)(x:Value):VR v y1 y2 y3 x4 x5 (w.setCell ⟨u,o,none⟩ x):=by
 unfold VR at h ⊢;rw[<-h];exact heap_setCell_other w _ v x hn
theorem QB{z1 z2 z3:Int}{z4 z5:ByteArray}(h:VR A z1 z2 z3 z4 z5 w)(y1 y2 y3:Int)(x4 x5:ByteArray):VR A y1 y2 y3 x4 x5 (vS w A y1 y2 y3 x4 x5):=by
 unfold VR at h ⊢;unfold vS;simp[World.setCell,Array.getElem?_modify,h]
theorem VS.other(h:VS b s i E a w)(hn:b≠v)(o:Nat)(x:Value):VS b s i E a (w.setCell ⟨v,o,none⟩ x):=by
 unfold VS at h ⊢;rw[<-h];exact heap_setCell_other w _ b x hn
theorem G2.set1{w1:World}(h:G2 b v w w1)(o:Nat)(x:Value):G2 b v w (w1.setCell ⟨b,o,none⟩ x) :=
 ⟨h.os,h.tape,h.output,by simpa [World.setCell] using h.size,fun k hk h1 h2=>by rw[<-h.block k hk h1 h2];exact heap_setCell_other w1 _ k x (fun e=>h1 e)⟩
def QC(V:ByteArray->ByteArray->World->Prop)(b v:Nat)(s:ByteArray)(i:Nat)(w w':World):Prop :=
 ∃(j:Nat) (E:Int) (c:Nat) (P B:ByteArray),VS b s j E c w'/\V P B w'/\G2 b v w w'/\E=(aV s.data.toList i).1/\(E=0->P=⟨(aV s.data.toList i).2.2.1.toArray⟩/\B=⟨(aV s.data.toList i).2.2.2.toArray⟩/\j=(aV s.data.toList i).2.1/\j<=s.size)/\(E≠0->c=(aV s.data.toList i).2.1)
structure Held(b v o:Nat)(V:ByteArray->ByteArray->World->Prop):Prop where
 grow:∀{P Q:ByteArray} {w w':World},V P Q w->w.grownBy w' (some b)->V P Q w'
 set3:∀{P Q:ByteArray} {w:World} (x:ByteArray),V P Q w->V x Q (w.setCell ⟨v,o+3,none⟩ (.string x))
 set4:∀{P Q:ByteArray} {w:World} (x:ByteArray),V P Q w->V P x (w.setCell ⟨v,o+4,none⟩ (.string x))
 c:∀{P Q:ByteArray} {w:World},V P Q w->w.cell? ⟨v,o+3,none⟩=some (.string P)/\w.cell? ⟨v,o+4,none⟩=some (.string Q)/\∀k,w.frozen? ⟨v,k,none⟩=false
def ahH(b v:Nat)(s:ByteArray)(i:Nat)(y1 y2 y3:Int)(w w':World):Prop:=QC (VR v y1 y2 y3) b v s i w w'
theorem Zc(b v o:Nat)(s:ByteArray)(i:Nat)(E:Int)(hE:E≠0)(a:Nat)(w:World)(h:VS b s i E a w) :
  Calls prog 90 #[.pointer (some ⟨b,0,none⟩),.pointer (some ⟨v,o,none⟩)] w fun e w'=>e=.returned (.tuple #[])/\∃n,w'=w.drewN n:=by
 have h0:=h.c0;have h1:=h.c1;have h2:=h.c2;have HR:=ae h;have hn:(E==0)=false:=by simpa using hE
 clear h hE;go_enter func90,ntmps90;go_wp2;go_quiet (fail);go_wp2;obtain⟨W,hW⟩:=zN (w.drewN nq);have HW:=ae hW.symm;have e0:W.cell? ⟨b,0,none⟩=some (.string s):=by rw[<-hW];exact h0
 have e1:W.cell? ⟨b,1,none⟩=some (.int .i64 (i:Int)):=by rw[<-hW];exact h1
 have e2:W.cell? ⟨b,2,none⟩=some (.int .i64 E):=by rw[<-hW];exact h2
 rw[hW];clear hW h0 h1 h2;go_quiet (fail);go_wp2
 go_end0
 exact⟨rfl,_,by rw[HW.o,World.drewN_drewN]⟩
theorem Zd(s:ByteArray)(j:Nat)(c:UInt8)(z:Int)(hz:(c.toNat:Int)=z):(∃h:j<s.size,((s[j].toNat:Int) == z)=true/\s.data.toList[j]?=some c)\/(∃h:j<s.size,((s[j].toNat:Int) == z)=false/\¬s.data.toList[j]?=some c)\/(¬j<s.size/\decide ((j:Int)<(s.size:Int))=false/\¬s.data.toList[j]?=some c):=by
 by_cases h:j<s.size
 ·rw[lZ s j h]
  cases hc:((s[j].toNat:Int) == z) with
  |true=>exact .inl ⟨h,hc,by rw[show s[j]=c from UInt8.toNat_inj.1 (by have:=eq_of_beq hc;omega)]⟩
  |false=>
   refine .inr (.inl ⟨h,hc,fun e=>?_⟩);rw[Option.some.inj e,hz]at hc;simp at hc
 ·exact .inr (.inr ⟨h,by simp;omega,by rw[List.getElem?_eq_none (by simp;omega)];simp⟩)
theorem Ze(b v o:Nat)(V:ByteArray->ByteArray->World->Prop)(hh:Held b v o V)(s:ByteArray)(i:Nat)(a:Nat)(w:World)(hi:i<=s.size)(h:VS b s i 0 a w)(hv:V ⟨#[]⟩ ⟨#[]⟩ w)(hbv:b≠v)(hs:s.size<2 ^ 62) :
  Calls prog 90 #[.pointer (some ⟨b,0,none⟩),.pointer (some ⟨v,o,none⟩)] w fun e w'=>e=.returned (.tuple #[])/\QC V b v s i w w':=by
 have HH:=ae hh;have dG:Hd (s.data.toList.length=s.size):=by show s.data.toList.length=s.size;simp
 have PP:=ae (fun st i a w (hi:i<=s.size) (h:VS b s i 0 a w)=>afc st b s i a w hi h hs);have HI:=ae h;have HVI:=ae hv;have ng:=ae hbv;have sG:=ae hi;have HS:=ae hs;have GET:=ae (lZ s);have g0:=h.c0;have g1:=h.c1;have g2:=h.c2;clear h hv hbv hi hs hh;go_enter func90,ntmps90
 rcases Zd s i 45 45 rfl with⟨hlt1,hc1,ho1⟩|⟨hlt1,hc1,hn1⟩|⟨hlt1,hc1,hn1⟩
 all_goals (
  first
   | (have hl2:((i:Nat):Int)<(s.size:Int):=by omega)
   | skip
  go_wp2;go_quiet (fail);obtain⟨U1,hU⟩:=zN ((w).drewN nq);have pq:Hd (VS b s (i) 0 a U1):=by show VS _ _ _ _ _ U1;rw[<-hU];exact HI.o.drew _
  have Zf:Hd (V ⟨#[]⟩ ⟨#[]⟩ U1):=by show V _ _ U1;rw[<-hU];exact HH.o.grow HVI.o (az (ax _ _) _)
  have Zg:Hd (G2 b v w U1):=by show G2 b v w U1;rw[<-hU];exact(G2.refl b v w).drew _
  try rw[hU]
  clear hU g0 g1 g2
  first
   | (have QE:Hd (bC 45 true s.data.toList (i)=((aX true s.data.toList (i+1)).1,(aX true s.data.toList (i+1)).2,jV true s.data.toList (i+1))):=zK (st:=true) ho1
      have Zh:=ae hlt1;clear hc1 ho1;have k0:=pq.o.c0;have k1:=pq.o.c1;have k2:=pq.o.c2;have kf:=pq.o.f1;have hw:IntKind.i64.wrap ((i:Int)+1)=((i+1:Nat):Int):=by rw[IntKind.wrap_i64];have:=HS.o;have:=Zh.o;omega
      go_wp2_with (go_at_call 117;refine(PP.o true (i+1) _ _ Zh.o (pq.o.set1 (i+1))).mono ?_);rintro e u1 ⟨V1,j1,E1,c1,rfl,hvs,hg,hE,hok,herr⟩;have jo:=ae hvs;have QF:=ae (HH.o.grow (HH.o.grow Zf.o (aT (ax _ _) _ _)) hg);have Zi:=ae ((Zg.o.set1 _ _).step hg);have jf:Hd (E1=(aX true s.data.toList (i+1)).1/\(E1=0->V1=⟨(au s.data.toList (i+1) (j1-(i+1))).toArray⟩/\j1=(aX true s.data.toList (i+1)).2/\j1<=s.size)/\(E1≠0->c1=(aX true s.data.toList (i+1)).2)):=⟨hE,hok,herr⟩;obtain⟨q3,q4,kv⟩:=HH.o.c QF.o;clear hvs hg hE hok herr k0 k1 k2 kf hw;obtain⟨W1,hW⟩:=zN (u1.setCell ⟨v,o+3,none⟩ (.string V1));have HW1:Hd (VS b s j1 E1 c1 W1):=by show VS _ _ _ _ _ W1;rw[<-hW];exact jo.o.other ng.o _ _
      have Gz:Hd (V V1 ⟨#[]⟩ W1):=by show V _ _ W1;rw[<-hW];exact HH.o.set3 _ QF.o
      have QG:Hd (G2 b v w W1):=by show G2 b v w W1;rw[<-hW];exact Zi.o.set _ _
      go_wp2
      try rw[hW]
      clear hW kv q3 q4;obtain⟨bz,hz⟩:=zN ((E1 == 0))
      rcases bz with - | -
      ·have HZ:Hd (¬E1=0):=by show ¬E1=0;simpa using hz
       have g0:=HW1.o.c0;have g1:=HW1.o.c1;have g2:=HW1.o.c2;go_quiet (fail);go_wp2
       go_end0
       have h9:¬(aX true s.data.toList (i+1)).1=0:=fun e=>HZ.o (jf.o.1.trans e)
       refine⟨rfl,j1,E1,c1,V1,⟨#[]⟩,HW1.o.drew _,HH.o.grow Gz.o (az (ax _ _) _),QG.o.drew _,?_,fun h=>absurd h HZ.o,fun _=>?_⟩
       ·unfold aV;rw[QE.o];simp only[if_neg h9];exact jf.o.1
       ·unfold aV;rw[QE.o];simp only[if_neg h9];exact jf.o.2.2 HZ.o
      have h0:E1=0:=by simpa using hz
      subst h0;clear hz;obtain⟨hk1,hk2,hk3⟩:=jf.o.2.1 rfl;obtain⟨jx,cx,VX,LX,hx,KG,hox,hpx,QH⟩:∃jx cx VX LX,VS b s jx 0 cx W1/\V VX ⟨#[]⟩ W1/\bC 45 true s.data.toList i=(0,jx,LX)/\VX=⟨LX.toArray⟩/\jx<=s.size:=⟨j1,c1,V1,au s.data.toList (i+1) (j1-(i+1)),HW1.o,Gz.o,by
       have h9:=jf.o.1.symm;rw[QE.o,h9,hk2];unfold jV;rw[if_pos h9],hk1,hk3⟩
      clear hk1 hk2 hk3 jf HW1 Gz jo QF Zi)
   | (obtain⟨jx,cx,VX,LX,hx,KG,hox,hpx,QH⟩:∃jx cx VX LX,VS b s jx 0 cx U1/\V VX ⟨#[]⟩ U1/\bC 45 true s.data.toList i=(0,jx,LX)/\VX=⟨LX.toArray⟩/\jx<=s.size:=⟨i,a,⟨#[]⟩,[],pq.o,Zf.o,zL hn1,rfl,sG.o⟩
      obtain⟨W1,hW⟩:=zN U1;have QG:=ae (hW ▸ Zg.o);rw[hW]at hx KG ⊢;clear hW hc1 hn1)
  have HW1:=ae hx;have Gz:=ae KG;have lT:=ae hox;have jy:=ae hpx;have DL:=ae QH;have g0:=HW1.o.c0;have g1:=HW1.o.c1;have g2:=HW1.o.c2;clear hx KG hox hpx QH
  try clear hl2
  clear hlt1
  rcases Zd s jx 43 43 rfl with⟨hlt3,hc3,ho3⟩|⟨hlt3,hc3,hn3⟩|⟨hlt3,hc3,hn3⟩
  all_goals (
   first
    | (have hl2:((jx:Nat):Int)<(s.size:Int):=by omega)
    | skip
   try go_wp2
   go_quiet (fail);obtain⟨U3,hU⟩:=zN ((W1).drewN nq);have qm:Hd (VS b s jx 0 cx U3):=by show VS _ _ _ _ _ U3;rw[<-hU];exact HW1.o.drew _
   have Zj:Hd (V VX ⟨#[]⟩ U3):=by show V _ _ U3;rw[<-hU];exact HH.o.grow Gz.o (az (ax _ _) _)
   have Zk:Hd (G2 b v w U3):=by show G2 b v w U3;rw[<-hU];exact QG.o.drew _
   have k0:=qm.o.c0;have k1:=qm.o.c1;have k2:=qm.o.c2;have kf:=qm.o.f1
   try rw[hU]
   clear hU g0 g1 g2
   first
    | (have kG:Hd (bC 43 false s.data.toList jx=((aX false s.data.toList (jx+1)).1,(aX false s.data.toList (jx+1)).2,jV false s.data.toList (jx+1))):=zK (st:=false) ho3
       have Zl:=ae hlt3;clear hc3 ho3;have hw:IntKind.i64.wrap (((jx:Nat):Int)+1)=((jx+1:Nat):Int):=by rw[IntKind.wrap_i64];have:=HS.o;have:=Zl.o;omega
       go_wp2_with (go_at_call 117;refine(PP.o false (jx+1) _ _ Zl.o (qm.o.set1 (jx+1))).mono ?_);rintro e u3 ⟨V3,j3,E3,c3,rfl,hvs,hg,hE,hok,herr⟩;have HF3:=ae hvs;have Zm:=ae (HH.o.grow (HH.o.grow Zj.o (aT (ax _ _) _ _)) hg);have ahI:=ae ((Zk.o.set1 _ _).step hg);have iY:Hd (E3=(aX false s.data.toList (jx+1)).1/\(E3=0->V3=⟨(au s.data.toList (jx+1) (j3-(jx+1))).toArray⟩/\j3=(aX false s.data.toList (jx+1)).2/\j3<=s.size)/\(E3≠0->c3=(aX false s.data.toList (jx+1)).2)):=⟨hE,hok,herr⟩;obtain⟨q3,q4,kv⟩:=HH.o.c Zm.o;clear hvs hg hE hok herr k0 k1 k2 kf hw;go_wp2
       go_end0
       refine⟨rfl,j3,E3,c3,VX,V3,HF3.o.other ng.o _ _,HH.o.set4 _ Zm.o,ahI.o.set _ _,?_,?_,?_⟩
       ·rw[iY.o.1];unfold aV;rw[lT.o];simp only[if_true];rw[kG.o];simp only;split<;>simp_all
       ·intro h0;obtain⟨e1,e2,e3⟩:=iY.o.2.1 h0;have h9:=iY.o.1.symm.trans h0;have hp:jV false s.data.toList (jx+1)=au s.data.toList (jx+1) ((aX false s.data.toList (jx+1)).2-(jx+1)):=by unfold jV;rw[if_pos h9]
        unfold aV;rw[lT.o];simp only[if_true];rw[kG.o];simp only[if_pos h9];exact⟨jy.o,by rw[e1,e2,hp],e2,e3⟩
       ·intro h0;have h9:¬(aX false s.data.toList (jx+1)).1=0:=fun e=>h0 (iY.o.1.trans e)
        unfold aV;rw[lT.o];simp only[if_true];rw[kG.o];simp only[if_neg h9];exact iY.o.2.2 h0)
    | (have kG:Hd (bC 43 false s.data.toList jx=(0,jx,[])):=zL hn3
       clear hc3 hn3;go_wp2
       go_end0
       refine⟨rfl,jx,0,_,VX,⟨#[]⟩,qm.o,Zj.o,Zk.o,?_,?_,fun h=>absurd rfl h⟩
       ·unfold aV;rw[lT.o];simp only[if_true];rw[kG.o];simp only[if_true]
       ·intro _;unfold aV;rw[lT.o];simp only[if_true];rw[kG.o];simp only[if_true];exact⟨jy.o,by first|trivial|rfl,by first|trivial|rfl,DL.o⟩)))
theorem ahJ(b v:Nat)(y1 y2 y3:Int)(hn:b≠v):Held b v 0 (VR v y1 y2 y3):=⟨fun h hg=>h.grow hg hn.symm,fun x h=>h.set3 x,fun x h=>h.set4 x,fun h=>⟨h.cells.2.2.2.1,h.cells.2.2.2.2,h.f⟩⟩
theorem GG(b v:Nat)(s:ByteArray)(i:Nat)(E:Int)(hE:E≠0)(a:Nat)(w:World)(h:VS b s i E a w) :
  Calls prog 90 #[.pointer (some ⟨b,0,none⟩),.pointer (some ⟨v,0,none⟩)] w fun e w'=>e=.returned (.tuple #[])/\∃n,w'=w.drewN n:=Zc b v 0 s i E hE a w h
theorem ahK(b v:Nat)(s:ByteArray)(i:Nat)(a:Nat)(y1 y2 y3:Int)(w:World)(hi:i<=s.size)(h:VS b s i 0 a w)(hv:VR v y1 y2 y3 ⟨#[]⟩ ⟨#[]⟩ w)(hbv:b≠v)(hs:s.size<2 ^ 62) :
  Calls prog 90 #[.pointer (some ⟨b,0,none⟩),.pointer (some ⟨v,0,none⟩)] w fun e w'=>e=.returned (.tuple #[])/\ahH b v s i y1 y2 y3 w w':=Ze b v 0 _ (ahJ b v y1 y2 y3 hbv) s i a w hi h hv hbv hs
structure RV(w:World)(A:Nat)(s:ByteArray)(j:Nat)(E:Int)(c:Nat)(y1 y2 y3:Int)(P B:ByteArray)(u:World):Prop where
 vs:VS (A+1) s j E c u
 vr:VR (A+2) y1 y2 y3 P B u
 vz:VR A 0 0 0 ⟨#[]⟩ ⟨#[]⟩ u
 gb:w.grownBy u none
 le:w.heap.size<=A
theorem RV.drew(h:RV w A s j E c y1 y2 y3 P B u)(n:Nat):RV w A s j E c y1 y2 y3 P B (u.drewN n) :=
 ⟨h.vs.drew n,h.vr,h.vz,az h.gb n,h.le⟩
theorem RV.call(h:RV w A s j E c y1 y2 y3 P B u)(hg:u.grownBy u' (some (A+1)))(hv:VS (A+1) s j' E' c' u'):RV w A s j' E' c' y1 y2 y3 P B u' :=
 ⟨hv,h.vr.grow hg (by omega),h.vz.grow hg (by omega),⟨hg.os.trans h.gb.os,hg.tape.trans h.gb.tape,hg.output.trans h.gb.output,Nat.le_trans h.gb.size hg.size,fun k hk _=>(hg.block k (Nat.lt_of_lt_of_le hk h.gb.size) (by have:=h.le;simp;omega)).trans (h.gb.block k hk (by simp))⟩,h.le⟩
theorem RV.two(h:RV w A s j E c y1 y2 y3 P B u)(hg:G2 (A+1) (A+2) u u'){P' B':ByteArray}(hv:VS (A+1) s j' E' c' u')(hr:VR (A+2) y1 y2 y3 P' B' u'):RV w A s j' E' c' y1 y2 y3 P' B' u' :=
 ⟨hv,hr,by have:=h.vz;unfold VR at this ⊢;rw[hg.block A ((bJ this)) (by omega) (by omega)];exact this,⟨hg.os.trans h.gb.os,hg.tape.trans h.gb.tape,hg.output.trans h.gb.output,Nat.le_trans h.gb.size hg.size,fun k hk _=>(hg.block k (Nat.lt_of_lt_of_le hk h.gb.size) (by have:=h.le;omega) (by have:=h.le;omega)).trans (h.gb.block k hk (by simp))⟩,h.le⟩
theorem VR.set0(h:VR v y1 y2 y3 x4 x5 w)(z:Int):VR v z y2 y3 x4 x5 (w.setCell ⟨v,0,none⟩ (.int .i64 z)):=by
 unfold VR at h ⊢;simp[World.setCell,Array.getElem?_modify,h]
theorem VR.set1(h:VR v y1 y2 y3 x4 x5 w)(z:Int):VR v y1 z y3 x4 x5 (w.setCell ⟨v,1,none⟩ (.int .i64 z)):=by
 unfold VR at h ⊢;simp[World.setCell,Array.getElem?_modify,h]
theorem VR.set2(h:VR v y1 y2 y3 x4 x5 w)(z:Int):VR v y1 y2 z x4 x5 (w.setCell ⟨v,2,none⟩ (.int .i64 z)):=by
 unfold VR at h ⊢;simp[World.setCell,Array.getElem?_modify,h]
theorem RV.put0(h:RV w A s j E c y1 y2 y3 P B u)(x:Int):RV w A s j E c x y2 y3 P B (u.setCell ⟨A+2,0,none⟩ (.int .i64 x)) :=
 ⟨h.vs.other (by omega) _ _,h.vr.set0 x,h.vz.other (by omega) _ _,kD h.gb (by have:=h.le;omega) _ _,h.le⟩
theorem RV.put1(h:RV w A s j E c y1 y2 y3 P B u)(x:Int):RV w A s j E c y1 x y3 P B (u.setCell ⟨A+2,1,none⟩ (.int .i64 x)) :=
 ⟨h.vs.other (by omega) _ _,h.vr.set1 x,h.vz.other (by omega) _ _,kD h.gb (by have:=h.le;omega) _ _,h.le⟩
theorem RV.put2(h:RV w A s j E c y1 y2 y3 P B u)(x:Int):RV w A s j E c y1 y2 x P B (u.setCell ⟨A+2,2,none⟩ (.int .i64 x)) :=
 ⟨h.vs.other (by omega) _ _,h.vr.set2 x,h.vz.other (by omega) _ _,kD h.gb (by have:=h.le;omega) _ _,h.le⟩
theorem RV.born(w:World)(s:ByteArray):RV w w.heap.size s 0 0 0 0 0 0 ⟨#[]⟩ ⟨#[]⟩ (((w.alloc (.cells #[.int .i64 0,.int .i64 0,.int .i64 0,.string ⟨#[]⟩,.string ⟨#[]⟩] 120)).alloc (.cells #[.string s,.int .i64 0,.int .i64 0,.int .i64 0] 127)).alloc (.cells #[.int .i64 0,.int .i64 0,.int .i64 0,.string ⟨#[]⟩,.string ⟨#[]⟩] 120)):=by
 refine⟨?_,?_,?_,aH (aH (aH (ax w none) _) _) _,Nat.le_refl _⟩
 ·unfold VS;rw[Lib.alloc_old _ _ _ (by simp)];exact Jz w _ _
 ·unfold VR;have:=Jz (w.alloc (.cells #[.int .i64 0,.int .i64 0,.int .i64 0,.string ⟨#[]⟩,.string ⟨#[]⟩] 120)) (.cells #[.string s,.int .i64 0,.int .i64 0,.int .i64 0] 127) (.cells #[.int .i64 0,.int .i64 0,.int .i64 0,.string ⟨#[]⟩,.string ⟨#[]⟩] 120);simpa using this
 ·unfold VR;rw[Lib.alloc_old _ _ _ (by simp;omega),Lib.alloc_old _ _ _ (by simp)];exact heap_alloc_new w _
theorem VS.all(h:VS b s i E a w):w.cell? ⟨b,0,none⟩=some (.string s)/\w.cell? ⟨b,1,none⟩=some (.int .i64 (i:Int))/\w.cell? ⟨b,2,none⟩=some (.int .i64 E)/\w.cell? ⟨b,3,none⟩=some (.int .i64 (a:Int)):=⟨h.c0,h.c1,h.c2,h.c3⟩
theorem ahL(s:ByteArray)(w:World)(hs:s.size<2 ^ 62) :
  Calls prog 61 #[.string s] w fun e w'=>e=.returned (.tuple #[Xt (kU s.data.toList).2.2,.int .i64 (kU s.data.toList).1,.int .i64 ((kU s.data.toList).2.1:Nat)])/\w.grownBy w' none:=by
 by_cases h100:100<s.size
 ·have hp:kU s.data.toList=(1,0,zeroV):=by unfold kU;rw[if_pos (by simpa using h100)]
  rw[hp];clear hp;go_enter func61,ntmps61;go_wp2;exact bodyPost_ret (jS (p:=2) (u:=3) (r:=4) rfl _ _ w.heap.size _ _ (0,0) _ rfl (heap_alloc_new w _) underlying120 rfl (by kernel_rfl)) rfl ⟨rfl,aH (ax w none) _⟩
 ·have hp:kU s.data.toList=eU s.data.toList:=by unfold kU;rw[if_neg (by simpa using h100)]
  rw[hp];clear hp;obtain⟨l,hl⟩:∃l,l=s.data.toList:=⟨_,rfl⟩;have HL:Hd (l=s.data.toList/\l.length=s.size):=⟨hl,by rw[hl];simp⟩;have CN:=ae (fun b i a w (hi:i<=s.size) (h:VS b s i 0 a w)=>XA b s i a w hi h hs);have MY:Hd (∀b i a w,l[i]?=some 46->VS b s i 0 a w->Calls prog 89 #[.pointer (some ⟨b,0,none⟩),.int .u8 46] w fun e w'=>e=.returned (.tuple #[])/\VS b s (i+1) 0 a w'/\w.grownBy w' (some b)):=fun b i a w hc h=>ae8 b s i 0 a 46 w (by rw[<-hl];exact hc) h hs
  have MN:Hd (∀b i a w,i<=s.size->¬l[i]?=some 46->VS b s i 0 a w->Calls prog 89 #[.pointer (some ⟨b,0,none⟩),.int .u8 46] w fun e w'=>e=.returned (.tuple #[])/\VS b s i 2 i w'/\w.grownBy w' (some b)):=fun b i a w hi hc h=>ae9 b s i a 46 w hi (by rw[<-hl];exact hc) h hs
  have CT:=ae (fun b v i a y1 y2 y3 w (hi:i<=s.size) (h1:VS b s i 0 a w) (h2:VR v y1 y2 y3 ⟨#[]⟩ ⟨#[]⟩ w) (h3:b≠v)=>ahK b v s i a y1 y2 y3 w hi h1 h2 h3 hs);have HB:=ae (RV.born w s);have sH:=Xr l;have hnr:=Vu l;obtain⟨R,hR⟩:=zN (bZ l);obtain⟨X,hX⟩:=zN (eU l);rw[hR]at sH hnr;rw[hX]at sH;rw[<-hl,hX];have HV:=ae sH;have HR0:=ae hnr;have HS:=ae hs;clear hl sH hnr hR hX hs;go_enter func61,ntmps61;go_wp2_with (go_at_call 88;refine(CN.o _ 0 0 _ (Nat.zero_le _) HB.o.vs).mono ?_);rintro e u1 ⟨x1,j1,E1,c1,rfl,hvs,hg,hE,hok,herr⟩;obtain⟨A,hA⟩:=zN (w.heap.size);rw[hA]at HB hvs hg;rw[hA];have HA1:=ae (HB.o.call hg hvs);have jf:Hd (E1=(rdNum l 0).1/\(E1=0->x1=(rdNum l 0).2.1/\j1=(rdNum l 0).2.2/\j1<=s.size)/\(E1≠0->c1=(rdNum l 0).2.2)):=by rw[HL.o.1];exact⟨hE,hok,herr⟩
  clear hA hvs hg hE hok herr HB;obtain⟨U1,yP⟩:=zN (u1.setCell ⟨A+2,0,none⟩ (.int .i64 x1));have pq:Hd (RV w A s j1 E1 c1 x1 0 0 ⟨#[]⟩ ⟨#[]⟩ U1):=by show RV _ _ _ _ _ _ _ _ _ _ _ U1;rw[<-yP];exact HA1.o.put0 x1
  obtain⟨q0,q1,q2,q3,q4⟩:=HA1.o.vr.cells;have qf:=HA1.o.vr.f;obtain⟨f0,f1,f2,f3⟩:=pq.o.vs.all
  cases hz1:(E1 == 0)
  case' false=>
   have HZ:Hd (E1≠0):=by show E1≠0;simpa using hz1
   have FIN:Hd (X=(E1,c1,zeroV)):=by
    show X=_;have h9:¬(rdNum l 0).1=0:=fun e=>HZ.o (jf.o.1.trans e)
    have hr:=HR0.o;rw[if_neg h9,<-jf.o.1,<-jf.o.2.2 HZ.o]at hr;rw[HV.o,hr,if_neg HZ.o]
   go_wp2_with (go_at_call 90;refine(GG (A+1) (A+2) s j1 E1 HZ.o c1 _ pq.o.vs).mono ?_);rintro e t1 ⟨rfl,n,hn⟩;have HT:=ae (pq.o.drew n);rw[<-hn]at HT;clear hn f0 f1 f2 f3
  case' true=>
   have h0:E1=0:=by simpa using hz1
   subst h0;clear hz1;have oq:=ae ((jf.o.2.1 rfl).2.2);have HR1:Hd (R=xP l j1 x1):=by
    show R=_;obtain⟨e1,e2,-⟩:=jf.o.2.1 rfl;have hr:=HR0.o;rw[if_pos jf.o.1.symm,<-e1,<-e2]at hr;exact hr
   clear jf HR0
   cases hc1:decide (l[j1]?=some 46)
   case' false=>
    have hc':=of_decide_eq_false hc1;have HZ:Hd ((2:Int)≠0):=by show(2:Int)≠0;decide
    have FIN:Hd (X=(2,j1,zeroV)):=by
     show X=_;have hr:=HR1.o;unfold xP at hr;rw[if_neg hc']at hr;rw[HV.o,hr];rfl
    have CM:=ae (MN.o _ _ _ _ oq.o hc' pq.o.vs);clear hc1 hc';go_wp2_with (go_at_call 89;refine CM.o.mono ?_);rintro e v1 ⟨rfl,hvs,hg⟩;have HM:=ae (pq.o.call hg hvs);clear hvs hg f0 f1 f2 f3 q0 q1 q2 q3 q4 qf yP;obtain⟨f0,f1,f2,f3⟩:=HM.o.vs.all;go_wp2_with (go_at_call 90;refine(GG (A+1) (A+2) s j1 2 HZ.o j1 _ HM.o.vs).mono ?_);rintro e t1 ⟨rfl,n,hn⟩;have HT:=ae (HM.o.drew n);rw[<-hn]at HT;clear hn f0 f1 f2 f3
   case' true=>
    have hc':=of_decide_eq_true hc1;have HRn:Hd (R=if(rdNum l (j1+1)).1=0 then uu l (rdNum l (j1+1)).2.2 x1 (rdNum l (j1+1)).2.1 else((rdNum l (j1+1)).1,(rdNum l (j1+1)).2.2,0,0,0)):=by
     show R=_;have hr:=HR1.o;unfold xP at hr;rw[if_pos hc']at hr;exact hr
    have kY:Hd (j1+1<=s.size):=by have:=(List.getElem?_eq_some_iff.1 hc').1;rw[HL.o.2]at this;exact this
    have CM:=ae (MY.o _ _ _ _ hc' pq.o.vs);clear hc1 hc';go_wp2_with (go_at_call 89;refine CM.o.mono ?_);rintro e v2 ⟨rfl,hvs,hg⟩;have pV:=ae (pq.o.call hg hvs);clear hvs hg f0 f1 f2 f3 q0 q1 q2 q3 q4 qf yP HR1 CM;obtain⟨f0,f1,f2,f3⟩:=pV.o.vs.all;go_wp2_with (go_at_call 88;refine(CN.o _ (j1+1) c1 _ kY.o pV.o.vs).mono ?_);rintro e u2 ⟨x2,j2,E2,c2,rfl,hvs,hg,hE,hok,herr⟩;have HA2:=ae (pV.o.call hg hvs);have fD:Hd (E2=(rdNum l (j1+1)).1/\(E2=0->x2=(rdNum l (j1+1)).2.1/\j2=(rdNum l (j1+1)).2.2/\j2<=s.size)/\(E2≠0->c2=(rdNum l (j1+1)).2.2)):=by rw[HL.o.1];exact⟨hE,hok,herr⟩
    clear hvs hg hE hok herr f0 f1 f2 f3;obtain⟨U2,QI⟩:=zN (u2.setCell ⟨A+2,1,none⟩ (.int .i64 x2));have Ag:Hd (RV w A s j2 E2 c2 x1 x2 0 ⟨#[]⟩ ⟨#[]⟩ U2):=by show RV _ _ _ _ _ _ _ _ _ _ _ U2;rw[<-QI];exact HA2.o.put1 x2
    obtain⟨q0,q1,q2,q3,q4⟩:=HA2.o.vr.cells;have qf:=HA2.o.vr.f;obtain⟨f0,f1,f2,f3⟩:=Ag.o.vs.all
    cases hz2:(E2 == 0)
    case' false=>
     have HZ:Hd (E2≠0):=by show E2≠0;simpa using hz2
     have FIN:Hd (X=(E2,c2,zeroV)):=by
      show X=_;have h9:¬(rdNum l (j1+1)).1=0:=fun e=>HZ.o (fD.o.1.trans e)
      have hr:=HRn.o;rw[if_neg h9,<-fD.o.1,<-fD.o.2.2 HZ.o]at hr;rw[HV.o,hr,if_neg HZ.o]
     go_wp2_with (go_at_call 90;refine(GG (A+1) (A+2) s j2 E2 HZ.o c2 _ Ag.o.vs).mono ?_);rintro e t1 ⟨rfl,n,hn⟩;have HT:=ae (Ag.o.drew n);rw[<-hn]at HT;clear hn f0 f1 f2 f3
    case' true=>
     have h0:E2=0:=by simpa using hz2
     subst h0;clear hz2;have HJ2:=ae ((fD.o.2.1 rfl).2.2);have HR2:Hd (R=uu l j2 x1 x2):=by
      show R=_;obtain⟨e1,e2,-⟩:=fD.o.2.1 rfl;have hr:=HRn.o;rw[if_pos fD.o.1.symm,<-e1,<-e2]at hr;exact hr
     clear fD HRn
     cases hc2:decide (l[j2]?=some 46)
     case' false=>
      have hc':=of_decide_eq_false hc2;have HZ:Hd ((2:Int)≠0):=by show(2:Int)≠0;decide
      have FIN:Hd (X=(2,j2,zeroV)):=by
       show X=_;have hr:=HR2.o;unfold uu at hr;rw[if_neg hc']at hr;rw[HV.o,hr];rfl
      have CM:=ae (MN.o _ _ _ _ HJ2.o hc' Ag.o.vs);clear hc2 hc';go_wp2_with (go_at_call 89;refine CM.o.mono ?_);rintro e v1 ⟨rfl,hvs,hg⟩;have HM:=ae (Ag.o.call hg hvs);clear hvs hg f0 f1 f2 f3 q0 q1 q2 q3 q4 qf QI;obtain⟨f0,f1,f2,f3⟩:=HM.o.vs.all;go_wp2_with (go_at_call 90;refine(GG (A+1) (A+2) s j2 2 HZ.o j2 _ HM.o.vs).mono ?_);rintro e t1 ⟨rfl,n,hn⟩;have HT:=ae (HM.o.drew n);rw[<-hn]at HT;clear hn f0 f1 f2 f3
     case' true=>
      have hc':=of_decide_eq_true hc2;have HRn:Hd (R=if(rdNum l (j2+1)).1=0 then zu l (rdNum l (j2+1)).2.2 x1 x2 (rdNum l (j2+1)).2.1 else((rdNum l (j2+1)).1,(rdNum l (j2+1)).2.2,0,0,0)):=by
       show R=_;have hr:=HR2.o;unfold uu at hr;rw[if_pos hc']at hr;exact hr
      have kY:Hd (j2+1<=s.size):=by have:=(List.getElem?_eq_some_iff.1 hc').1;rw[HL.o.2]at this;exact this
      have CM:=ae (MY.o _ _ _ _ hc' Ag.o.vs);clear hc2 hc';go_wp2_with (go_at_call 89;refine CM.o.mono ?_);rintro e v3 ⟨rfl,hvs,hg⟩;have uP:=ae (Ag.o.call hg hvs);clear hvs hg f0 f1 f2 f3 q0 q1 q2 q3 q4 qf QI HR2 CM;obtain⟨f0,f1,f2,f3⟩:=uP.o.vs.all;go_wp2_with (go_at_call 88;refine(CN.o _ (j2+1) c2 _ kY.o uP.o.vs).mono ?_);rintro e u3 ⟨x3,j3,E3,c3,rfl,hvs,hg,hE,hok,herr⟩;have QJ:=ae (uP.o.call hg hvs);have iY:Hd (E3=(rdNum l (j2+1)).1/\(E3=0->x3=(rdNum l (j2+1)).2.1/\j3=(rdNum l (j2+1)).2.2/\j3<=s.size)/\(E3≠0->c3=(rdNum l (j2+1)).2.2)):=by rw[HL.o.1];exact⟨hE,hok,herr⟩
      clear hvs hg hE hok herr f0 f1 f2 f3;obtain⟨U3,Ah⟩:=zN (u3.setCell ⟨A+2,2,none⟩ (.int .i64 x3));have qm:Hd (RV w A s j3 E3 c3 x1 x2 x3 ⟨#[]⟩ ⟨#[]⟩ U3):=by show RV _ _ _ _ _ _ _ _ _ _ _ U3;rw[<-Ah];exact QJ.o.put2 x3
      obtain⟨q0,q1,q2,q3,q4⟩:=QJ.o.vr.cells;have qf:=QJ.o.vr.f;obtain⟨f0,f1,f2,f3⟩:=qm.o.vs.all
      cases hz3:(E3 == 0)
      case' false=>
       have HZ:Hd (E3≠0):=by show E3≠0;simpa using hz3
       have FIN:Hd (X=(E3,c3,zeroV)):=by
        show X=_;have h9:¬(rdNum l (j2+1)).1=0:=fun e=>HZ.o (iY.o.1.trans e)
        have hr:=HRn.o;rw[if_neg h9,<-iY.o.1,<-iY.o.2.2 HZ.o]at hr;rw[HV.o,hr,if_neg HZ.o]
       go_wp2_with (go_at_call 90;refine(GG (A+1) (A+2) s j3 E3 HZ.o c3 _ qm.o.vs).mono ?_);rintro e t1 ⟨rfl,n,hn⟩;have HT:=ae (qm.o.drew n);rw[<-hn]at HT;clear hn f0 f1 f2 f3
      case' true=>
       have h0:E3=0:=by simpa using hz3
       subst h0;clear hz3;have DL:=ae ((iY.o.2.1 rfl).2.2);have HR3:Hd (R=zu l j3 x1 x2 x3):=by
        show R=_;obtain⟨e1,e2,-⟩:=iY.o.2.1 rfl;have hr:=HRn.o;rw[if_pos iY.o.1.symm,<-e1,<-e2]at hr;exact hr
       clear iY HRn;have JA:=ae (CT.o _ _ _ _ _ _ _ _ DL.o qm.o.vs qm.o.vr (by omega));go_wp2_with (go_at_call 90;refine JA.o.mono ?_);rintro e t1 ⟨rfl,j4,E4,c4,P4,B4,hvs,Zn,hg,hE,hok,herr⟩;have HT:=ae (qm.o.two hg hvs Zn);have qh:Hd (E4=(aV l j3).1/\(E4=0->P4=⟨(aV l j3).2.2.1.toArray⟩/\B4=⟨(aV l j3).2.2.2.toArray⟩/\j4=(aV l j3).2.1/\j4<=s.size)/\(E4≠0->c4=(aV l j3).2.1)):=by rw[HL.o.1];exact⟨hE,hok,herr⟩
       have QK:Hd (X=if(aV l j3).1=0 then(if(aV l j3).2.1<l.length then(2,(aV l j3).2.1,zeroV) else(0,0,⟨x1,x2,x3,(aV l j3).2.2.1,(aV l j3).2.2.2⟩)) else((aV l j3).1,(aV l j3).2.1,zeroV)):=by
        show X=_;have hr:=HR3.o;unfold zu at hr;rw[HV.o,hr];rfl
       clear hvs Zn hg hE hok herr f0 f1 f2 f3 q0 q1 q2 q3 q4 qf Ah HV HR3
       cases KH:(E4 == 0)
       case' false=>
        have HZ:Hd (E4≠0):=by show E4≠0;simpa using KH
        have FIN:Hd (X=(E4,c4,zeroV)):=by
         show X=_;have h9:¬(aV l j3).1=0:=fun e=>HZ.o (qh.o.1.trans e)
         rw[QK.o,if_neg h9,<-qh.o.1,<-qh.o.2.2 HZ.o]
       case' true=>
        have h0:E4=0:=by simpa using KH
        subst h0;clear KH;have wQ:=ae (qh.o.2.1 rfl);have KI:Hd (X=if j4<l.length then(2,j4,zeroV) else(0,0,⟨x1,x2,x3,(aV l j3).2.2.1,(aV l j3).2.2.2⟩)):=by
         show X=_;rw[QK.o,if_pos qh.o.1.symm,<-wQ.o.2.2.1]
        clear qh QK;obtain⟨f0,f1,f2,f3⟩:=HT.o.vs.all
        by_cases hlt:j4<s.size
        ·have hl2:((j4:Nat):Int)<(s.size:Int):=by omega
         have FIN:Hd (X=(2,j4,zeroV)):=by show X=_;rw[KI.o,if_pos (by rw[HL.o.2];exact hlt)]
         go_wp2_with (go_at_call 91;refine(zO (A+1) s j4 c4 2 j4 _ HT.o.vs).mono ?_);rintro e t2 ⟨rfl,hvs,hg⟩;have HT3:=ae (HT.o.call hg hvs);clear hvs hg f0 f1 f2 f3;obtain⟨f0,f1,f2,f3⟩:=HT3.o.vs.all;obtain⟨z0,z1,z2,z3,z4⟩:=HT3.o.vz.cells;have zf:=HT3.o.vz.f;go_wp2
         go_region
         go_wp2;refine bodyPost_ret (jS (p:=2) (u:=3) (r:=4) rfl _ _ A _ _ (0,0) _ rfl (QB HT3.o.vz 0 0 0 ⟨#[]⟩ ⟨#[]⟩) underlying120 rfl (by kernel_rfl)) rfl ⟨?_,az (Bg HT3.o.gb HT3.o.le 0 0 0 ⟨#[]⟩ ⟨#[]⟩) 1⟩;rw[FIN.o];rfl
        ·have hl2:¬((j4:Nat):Int)<(s.size:Int):=by omega
         have FIN:Hd (X=(0,0,⟨x1,x2,x3,(aV l j3).2.2.1,(aV l j3).2.2.2⟩)):=by show X=_;rw[KI.o,if_neg (by rw[HL.o.2];exact hlt)]
         clear hlt;obtain⟨z0,z1,z2,z3,z4⟩:=HT.o.vz.cells;have zf:=HT.o.vz.f;obtain⟨q0,q1,q2,q3,q4⟩:=HT.o.vr.cells;go_wp2;refine bodyPost_ret (jS (p:=2) (u:=3) (r:=4) rfl _ _ A _ _ (0,0) _ rfl (QB HT.o.vz x1 x2 x3 P4 B4) underlying120 rfl (by kernel_rfl)) rfl ⟨?_,Bg HT.o.gb HT.o.le x1 x2 x3 P4 B4⟩;rw[FIN.o,wQ.o.1,wQ.o.2.1];rfl
  all_goals (
   obtain⟨f0,f1,f2,f3⟩:=HT.o.vs.all;obtain⟨z0,z1,z2,z3,z4⟩:=HT.o.vz.cells;have zf:=HT.o.vz.f;go_wp2
   go_region
   go_wp2;refine bodyPost_ret (jS (p:=2) (u:=3) (r:=4) rfl _ _ A _ _ (0,0) _ rfl (QB HT.o.vz 0 0 0 ⟨#[]⟩ ⟨#[]⟩) underlying120 rfl (by kernel_rfl)) rfl ⟨?_,az (Bg HT.o.gb HT.o.le 0 0 0 ⟨#[]⟩ ⟨#[]⟩) 1⟩;rw[FIN.o];rfl)
end Go.Proofs.YtbcfhgpfgdbjgaaGreatDoor
