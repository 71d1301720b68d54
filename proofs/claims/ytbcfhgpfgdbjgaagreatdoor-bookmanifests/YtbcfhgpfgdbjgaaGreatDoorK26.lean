import Derived.Test.YtbcfhgpfgdbjgaaGreatDoorK24
import Derived.Test.YtbcfhgpfgdbjgaaGreatDoorK21
set_option linter.all false
set_option maxRecDepth 100000
set_option maxHeartbeats 0
open Go.Proofs.Tryz
namespace Go.Proofs.YtbcfhgpfgdbjgaaGreatDoor
open Go.RowKit
variable{P Q s x4 x5 z4 z5:ByteArray}{E E' m n y1 y2 y3 z1 z2 z3:Int}{l:List UInt8}{A N b d d' g j j' v:Nat}{W W' u u' w w':World}
def GR(g b:Nat)(w:World):Prop:=w.cell? ⟨g,0,none⟩=some (.pointer (some ⟨b,0,none⟩))
theorem GR.drew(h:GR g b w)(n:Nat):GR g b (w.drewN n):=h
theorem GR.growb{q:Nat}(h:GR g b w)(hg:w.grownBy w' (some q))(hn:g≠q):GR g b w':=hg.cell h (by simpa using hn)
theorem GR.grow(h:GR g b w)(hg:w.grownBy w' none):GR g b w':=hg.cell h (by simp)
theorem GR.other(h:GR g b w)(hn:g≠v)(o:Nat)(x:Value):GR g b (w.setCell ⟨v,o,none⟩ x):=by
 unfold GR at h ⊢;unfold World.cell? at h ⊢;rw[heap_setCell_other w _ g x (by simpa using hn)];exact h
theorem Q5:∀(l t:List UInt8),Lib.hasPrefix l t=(decide (t.length<=l.length) && (l.take t.length == t))
 | l,[]=>by cases l<;>simp[Lib.hasPrefix]
 | [],c :: t=>by simp[Lib.hasPrefix]
 | x :: l,c :: t=>by
  show(c == x && Lib.hasPrefix l t)=_;rw[Q5 l t];simp only[List.length_cons,List.take_succ_cons,Nat.add_le_add_iff_right];rw[Bool.eq_iff_iff];simp only[Bool.and_eq_true,beq_iff_eq,decide_eq_true_eq,List.cons.injEq];constructor
  ·rintro⟨h1,h2,h3⟩;exact⟨h2,h1.symm,h3⟩
  ·rintro⟨h2,h1,h3⟩;exact⟨h1.symm,h2,h3⟩
theorem aii(l t:List UInt8)(i:Nat)(h:i+t.length<=l.length):Lib.hasPrefix (l.drop i) t=(au l i t.length == t):=by
 rw[Q5];unfold au;rw[decide_eq_true (by rw[List.length_drop];omega),Bool.true_and]
theorem aij(l t:List UInt8)(i:Nat)(h:¬i+t.length<=l.length)(hi:i<=l.length):Lib.hasPrefix (l.drop i) t=false:=by
 rw[Q5,decide_eq_false (by rw[List.length_drop];omega),Bool.false_and]
theorem toList_eq(a b:ByteArray):(a.toList == b.toList)=(a.data.toList == b.data.toList):=by rw[Go.Lib.toList_data,Go.Lib.toList_data]
theorem GX(g b:Nat)(s t:ByteArray)(i:Nat)(E:Int)(a:Nat)(w:World)(hE:¬E=0)(hg:GR g b w)(h:VS b s i E a w) :
  Calls prog 65 #[.pointer (some ⟨g,0,none⟩),.string t] w fun e w'=>e=.returned (.bool false)/\∃n,w'=w.drewN n:=by
 have h0:=h.c0;have h1:=h.c1;have h2:=h.c2;have hn:(E==0)=false:=by simpa using hE
 have g0:w.cell? ⟨g,0,none⟩=some (.pointer (some ⟨b,0,none⟩)):=hg;clear h hg hE;go_enter func65,ntmps65;go_wp2;go_quiet (fail);go_wp2;go_ret;exact⟨rfl,_,rfl⟩
theorem Q7(g b:Nat)(s t:ByteArray)(i:Nat)(a:Nat)(w:World)(hi:i<=s.size)(hg:GR g b w)(h:VS b s i 0 a w)(hs:s.size<2 ^ 61)(ht:t.size<2 ^ 61) :
  Calls prog 65 #[.pointer (some ⟨g,0,none⟩),.string t] w fun e w'=>e=.returned (.bool (Lib.hasPrefix (s.data.toList.drop i) t.data.toList))/\∃n,w'=w.drewN n:=by
 have h0:=h.c0;have h1:=h.c1;have h2:=h.c2;have g0:w.cell? ⟨g,0,none⟩=some (.pointer (some ⟨b,0,none⟩)):=hg;have hw:IntKind.i64.wrap ((i:Int)+(t.size:Int))=(i:Int)+(t.size:Int):=by rw[IntKind.wrap_i64];omega
 clear h hg
 by_cases hf:i+t.size<=s.size
 ·have hle:decide ((i:Int)+(t.size:Int)<=(s.size:Int))=true:=by simp;omega
  obtain⟨X,hX⟩:∃X:ByteArray,X=⟨(au s.data.toList i t.size).toArray⟩:=⟨_,rfl⟩;have sl:∀wx,(Instr.slice 9 (.string s) (some (.int .i64 (i:Int))) (some (.int .i64 ((i:Int)+(t.size:Int)))) none).run prog wx=.ok (.string X) wx:=fun wx=>by
   rw[hX];have:=mM s i (i+t.size) (by omega) hf wx;rw[show i+t.size-i=t.size by omega,show((i+t.size:Nat):Int)=(i:Int)+(t.size:Int) by omega]at this;exact this
  have hp:=aii s.data.toList t.data.toList i (by simpa using hf);obtain⟨r,hr⟩:=zN ((X.toList == t.toList));have HP:Hd (Lib.hasPrefix (s.data.toList.drop i) t.data.toList=r):=by
   show _=_;rw[hp,<-hr,toList_eq,hX];simp
  rw[HP.o];clear hX hp hf hi hs ht
  cases r with
  |true=>
   go_enter func65,ntmps65;go_wp2;go_quiet (fail);go_wp2;go_ret;exact⟨rfl,_,rfl⟩
  |false=>
   go_enter func65,ntmps65;go_wp2;go_quiet (fail);go_wp2;go_ret;exact⟨rfl,_,rfl⟩
 ·have hle:decide ((i:Int)+(t.size:Int)<=(s.size:Int))=false:=by simp;omega
  have HP:=ae (aij s.data.toList t.data.toList i (by simpa using hf) (by simpa using hi));rw[HP.o];clear hf hi hs ht;go_enter func65,ntmps65;go_wp2;go_quiet (fail);go_wp2;go_ret;exact⟨rfl,_,rfl⟩
def aik(b:Nat)(s:ByteArray)(E:Int)(a:Nat)(w:World)(e:Ending)(w':World):Prop:=∃(v:Int) (j:Nat),e=.returned (.int .i64 v)/\VS b s j E a w'/\w.grownBy w' (some b)/\j<=s.size
theorem ail(b:Nat)(s:ByteArray)(i:Nat)(E:Int)(hE:E≠0)(a:Nat)(w:World)(hi:i<=s.size)(h:VS b s i E a w)(hs:s.size<2 ^ 62) :
  Calls prog 88 #[.pointer (some ⟨b,0,none⟩)] w (aik b s E a w):=(Xx b s i E a w hi h hs).mono fun e w' ⟨v,j,E',c,h1,h2,h3,h4,h5,_⟩=>by
 obtain⟨rfl,rfl⟩:=h5 hE;exact⟨v,j,h1,h2,h3,h4⟩
theorem Le(g b:Nat)(s:ByteArray)(i:Nat)(c:UInt8)(a:Nat)(w:World)(hi:i<=s.size)(hg:GR g b w)(h:VS b s i 0 a w)(hs:s.size<2 ^ 61) :
  Calls prog 65 #[.pointer (some ⟨g,0,none⟩),.string ⟨#[c]⟩] w fun e w'=>e=.returned (.bool (decide (s.data.toList[i]?=some c)))/\∃n,w'=w.drewN n:=by
 have:=Q7 g b s ⟨#[c]⟩ i a w hi hg h hs (by show 1 < _;decide);rw[show(ByteArray.mk #[c]).data.toList=[c] from rfl,qJ]at this;exact this
theorem ZH(g b:Nat)(s:ByteArray)(i:Nat)(a:Nat)(w:World)(hi:i<=s.size)(hg:GR g b w)(h:VS b s i 0 a w)(hs:s.size<2 ^ 61) :
  Calls prog 65 #[.pointer (some ⟨g,0,none⟩),.string ⟨#[124,124]⟩] w fun e w'=>e=.returned (.bool (lD s.data.toList i))/\∃n,w'=w.drewN n:=by
 have:=Q7 g b s ⟨#[124,124]⟩ i a w hi hg h hs (by show 2 < _;decide);rw[show(ByteArray.mk #[124,124]).data.toList=[124,124] from rfl,Ku]at this;exact this
theorem aim(l:List UInt8)(i:Nat)(hi:i<=l.length):(∀j,i<=j->j<ag l i->l[j]?=some 32)/\¬l[ag l i]?=some 32:=by
 constructor
 ·intro j h1 h2;unfold ag at h2;obtain⟨g1,g2⟩:=Io isSp l i (j-i) (by omega);have e:i+(j-i)=j:=by omega
  simp only[e]at g1 g2;rw[List.getElem?_eq_getElem g1];unfold isSp at g2;simpa using g2
 ·intro h;have hlt:=(List.getElem?_eq_some_iff.1 h).1;have:=AX isSp l i hlt;have e:=(List.getElem?_eq_some_iff.1 h).2;have e3:isSp 32=false:=by rw[<-e];exact this
  exact absurd e3 (by decide)
theorem Q8(g b:Nat)(s:ByteArray)(i:Nat)(a:Nat)(w:World)(hi:i<=s.size)(hgb:g≠b)(hg:GR g b w)(h:VS b s i 0 a w)(hs:s.size<2 ^ 61) :
  Calls prog 63 #[.pointer (some ⟨g,0,none⟩)] w fun e w'=>e=.returned (.bool (decide (i<ag s.data.toList i)))/\VS b s (ag s.data.toList i) 0 a w'/\w.grownBy w' (some b):=by
 obtain⟨h1,h2⟩:=aim s.data.toList i (by simpa using hi);have hN:=rq s.data.toList i (by simpa using hi);have hge:=sW s.data.toList i;obtain⟨N,hNN⟩:=zN (ag s.data.toList i);rw[hNN]at h1 h2 hN hge ⊢;have HC:=ae (fun j w (hj:j<=s.size) (hg:GR g b w) (h:VS b s j 0 a w)=>Le g b s j 32 a w hj hg h hs);have HS:Hd ((∀j,i<=j->j<N->s.data.toList[j]?=some 32)/\¬s.data.toList[N]?=some 32/\N<=s.size/\i<=N):=⟨h1,h2,by simpa using hN,hge⟩;have HB:=ae hgb;have HG:=ae hg;have HV:=ae h;have c1:=h.c1;have g0:w.cell? ⟨g,0,none⟩=some (.pointer (some ⟨b,0,none⟩)):=hg;have lM:=ae hs;clear h1 h2 hN hge hNN h hg hgb hs hi;go_enter func63,ntmps63;go_wp2;go_loopw [] (fun wr=>∃j:Nat,i<=j/\j<=N/\VS b s j 0 a wr/\GR g b wr/\w.grownBy wr (some b)) (fun wr=>s.size-placeOf b wr)
 case atStart=>exact⟨i,Nat.le_refl _,HS.o.2.2.2,HV.o,HG.o,ax _ _⟩
 case round=>
  obtain⟨j,hij,hjn,hv,hgr,hgw⟩:=hrel;clear HV HG c1 g0;have HV:=ae hv;have HG:=ae hgr;have HW:=ae hgw;have gX:=ae hv.place;have CI:=ae (fun w (h1:GR g b w) (h2:VS b s j 0 a w)=>HC.o j w (by have:=HS.o;omega) h1 h2);clear hv hgr hgw
  by_cases hlt:j<N
  ·rw[decide_eq_true (HS.o.1 j hij hlt)]at CI;have hw:IntKind.i64.wrap ((j:Int)+1)=((j+1:Nat):Int):=by rw[IntKind.wrap_i64];have:=HS.o;have:=lM.o;omega
   have HJ:Hd (i<=j/\j<N):=⟨hij,hlt⟩;clear hij hjn hlt;go_wp2_with (go_at_call 65;refine(CI.o _ HG.o HV.o).mono ?_);rintro e u1 ⟨rfl,n,hn⟩;replace HV:=ae (HV.o.drew n);replace HG:=ae (HG.o.drew n);replace HW:=ae (az HW.o n);rw[<-hn]at HV HG HW;clear hn;have c1:=HV.o.c1;have f1:=HV.o.f1;have g0:u1.cell? ⟨g,0,none⟩=some (.pointer (some ⟨b,0,none⟩)):=HG.o;go_wp2;go_roundw
   case rel=>exact⟨j+1,by have:=HJ.o;omega,by have:=HJ.o;omega,HV.o.set1 (j+1),HG.o.other HB.o _ _,aT HW.o _ _⟩
   case measure=>
    have e2:=(HV.o.set1 (j+1)).place;rw[gX.o];exact Nat.lt_of_le_of_lt (Nat.le_of_eq (congrArg (s.size - ·) e2)) (by have:=HJ.o;have:=HS.o;omega)
  ·have hjN:j=N:=by omega
   subst hjN;rw[decide_eq_false HS.o.2.1]at CI;clear hij hjn hlt;go_wp2_with (go_at_call 65;refine(CI.o _ HG.o HV.o).mono ?_);rintro e u1 ⟨rfl,n,hn⟩;replace HV:=ae (HV.o.drew n);replace HG:=ae (HG.o.drew n);replace HW:=ae (az HW.o n);rw[<-hn]at HV HG HW;clear hn;have c1:=HV.o.c1;have g0:u1.cell? ⟨g,0,none⟩=some (.pointer (some ⟨b,0,none⟩)):=HG.o;go_wp2;go_ret;exact⟨bu (by simp),HV.o,HW.o⟩
theorem ain(g b:Nat)(s:ByteArray)(i:Nat)(E:Int)(a:Nat)(w:World)(hE:¬E=0)(hg:GR g b w)(h:VS b s i E a w) :
  Calls prog 63 #[.pointer (some ⟨g,0,none⟩)] w fun e w'=>e=.returned (.bool false)/\∃n,w'=w.drewN n:=by
 have HC:Hd (∀w,GR g b w->VS b s i E a w->Calls prog 65 #[.pointer (some ⟨g,0,none⟩),.string ⟨#[32]⟩] w fun e w'=>e=.returned (.bool (false))/\∃n,w'=w.drewN n):=fun w hg h=>GX g b s _ i E a w hE hg h
 have HG:=ae hg;have HV:=ae h;have c1:=h.c1;have g0:w.cell? ⟨g,0,none⟩=some (.pointer (some ⟨b,0,none⟩)):=hg;clear h hg hE;go_enter func63,ntmps63;go_wp2;go_loopw [] (fun wr=>VS b s i E a wr/\GR g b wr/\∃n,wr=w.drewN n) (fun wr=>0)
 case atStart=>exact⟨HV.o,HG.o,0,rfl⟩
 case round=>
  obtain⟨hv,hgr,m,hm⟩:=hrel;clear HV HG c1 g0;have HV:=ae hv;have HG:=ae hgr;have HM:=ae hm;clear hv hgr hm;go_wp2_with (go_at_call 65;refine(HC.o _ HG.o HV.o).mono ?_);rintro e u1 ⟨rfl,n,hn⟩;replace HV:=ae (HV.o.drew n);replace HG:=ae (HG.o.drew n);rw[<-hn]at HV HG;have HN:Hd (u1=w.drewN (m+n)):=by show u1=_;rw[hn,HM.o,World.drewN_drewN]
  clear hn;have c1:=HV.o.c1;have g0:u1.cell? ⟨g,0,none⟩=some (.pointer (some ⟨b,0,none⟩)):=HG.o;go_wp2;go_ret;exact⟨bu (by simp),_,HN.o⟩
theorem ZI(g b:Nat)(s:ByteArray)(i:Nat)(E:Int)(a:Nat)(w:World)(hE:¬E=0)(hg:GR g b w)(h:VS b s i E a w) :
  Calls prog 92 #[.pointer (some ⟨g,0,none⟩)] w fun e w'=>e=.returned (.bool true)/\∃n,w'=w.drewN n:=by
 have c0:=h.c0;have c1:=h.c1;have c2:=h.c2;have g0:w.cell? ⟨g,0,none⟩=some (.pointer (some ⟨b,0,none⟩)):=hg;have hn:(E==0)=false:=by simpa using hE
 have hn2:(E != 0)=true:=by simpa using hE
 clear h hg hE;go_enter func92,ntmps92;go_wp2;go_quiet (fail);go_wp2;go_ret;exact⟨rfl,_,rfl⟩
theorem ZJ(g b:Nat)(s:ByteArray)(i:Nat)(a:Nat)(w:World)(hi:i<=s.size)(hg:GR g b w)(h:VS b s i 0 a w)(hs:s.size<2 ^ 61) :
  Calls prog 92 #[.pointer (some ⟨g,0,none⟩)] w fun e w'=>e=.returned (.bool (dL s.data.toList i))/\∃n,w'=w.drewN n:=by
 have c0:=h.c0;have c1:=h.c1;have c2:=h.c2;have g0:w.cell? ⟨g,0,none⟩=some (.pointer (some ⟨b,0,none⟩)):=hg;have HC:=ae (fun w (hg:GR g b w) (h:VS b s i 0 a w)=>ZH g b s i a w hi hg h hs);have HG:=ae hg;have HV:=ae h;clear h hg hs
 by_cases hl:s.size<=i
 ·have HE:Hd (dL s.data.toList i=true):=by show _=_;unfold dL;rw[decide_eq_true (by simpa using hl)];rfl
  have hd:decide (s.size<=i)=true:=by simp;omega
  rw[HE.o];clear hl hi;go_enter func92,ntmps92;go_wp2;go_quiet (fail);go_wp2;go_ret;exact⟨rfl,_,rfl⟩
 ·have HE:Hd (dL s.data.toList i=lD s.data.toList i):=by show _=_;unfold dL;rw[decide_eq_false (by simpa using hl)];rfl
  have hd:decide (s.size<=i)=false:=by simp;omega
  rw[HE.o];obtain⟨r,hr⟩:=zN (lD s.data.toList i);rw[hr]at HC ⊢;clear hl hi hr HE
  cases r with
  |true=>
   go_enter func92,ntmps92;go_wp2;go_quiet (first|(go_at_call 65;exact Calls.quiet_of (HC.o _ (HG.o.drew _) (HV.o.drew _))));go_wp2;go_ret;exact⟨rfl,_,rfl⟩
  |false=>
   go_enter func92,ntmps92;go_wp2;go_quiet (first|(go_at_call 65;exact Calls.quiet_of (HC.o _ (HG.o.drew _) (HV.o.drew _))));go_wp2;go_ret;exact⟨rfl,_,rfl⟩
theorem aio(g b:Nat)(s:ByteArray)(i:Nat)(E:Int)(a:Nat)(w:World)(hE:¬E=0)(hg:GR g b w)(h:VS b s i E a w) :
  Calls prog 118 #[.pointer (some ⟨g,0,none⟩)] w fun e w'=>e=.returned (.bool false)/\∃n,w'=w.drewN n:=by
 have HC:=ae (fun t w (hg:GR g b w) (h:VS b s i E a w)=>GX g b s t i E a w hE hg h);have HG:=ae hg;have HV:=ae h;clear h hg hE;go_enter func118,ntmps118;go_wp2_with (go_at_call 65;refine(HC.o _ _ HG.o HV.o).mono ?_);rintro e u0 ⟨rfl,n0,hn⟩;replace HV:Hd (VS b s i E a u0):=by show VS b s i E a u0;rw[hn];exact HV.o.drew _
 replace HG:Hd (GR g b u0):=by show GR g b u0;rw[hn];exact HG.o
 have HN:=ae hn;clear hn;go_wp2_with (go_at_call 65;refine(HC.o _ _ HG.o HV.o).mono ?_);rintro e u1 ⟨rfl,n1,hn⟩;replace HV:Hd (VS b s i E a u1):=by show VS b s i E a u1;rw[hn];exact HV.o.drew _
 replace HG:Hd (GR g b u1):=by show GR g b u1;rw[hn];exact HG.o
 replace HN:Hd (u1=w.drewN (n0+n1)):=by show u1=_;rw[hn,HN.o,World.drewN_drewN]
 clear hn;go_wp2_with (go_at_call 65;refine(HC.o _ _ HG.o HV.o).mono ?_);rintro e u2 ⟨rfl,n2,hn⟩;replace HV:Hd (VS b s i E a u2):=by show VS b s i E a u2;rw[hn];exact HV.o.drew _
 replace HG:Hd (GR g b u2):=by show GR g b u2;rw[hn];exact HG.o
 replace HN:Hd (u2=w.drewN (n0+n1+n2)):=by show u2=_;rw[hn,HN.o,World.drewN_drewN]
 clear hn;go_wp2;go_ret;exact⟨rfl,_,HN.o⟩
theorem aip(g b:Nat)(s:ByteArray)(i:Nat)(a:Nat)(w:World)(hi:i<=s.size)(hgb:g≠b)(hg:GR g b w)(h:VS b s i 0 a w)(hs:s.size<2 ^ 61) :
  Calls prog 118 #[.pointer (some ⟨g,0,none⟩)] w fun e w'=>e=.returned (.bool (eu s.data.toList i))/\VS b s (if eu s.data.toList i=true then i+1 else i) 0 a w'/\w.grownBy w' (some b):=by
 have CI:=ae (fun(c:UInt8) w (hg:GR g b w) (h:VS b s i 0 a w)=>Le g b s i c a w hi hg h hs);have dC:Hd (eu s.data.toList i=true->i<s.size):=fun h=>by have:=J8 h;simpa using this
 have lM:=ae hs;have HG:=ae hg;have HV:=ae h;have HW:Hd (w.grownBy w (some b)):=ax _ _;clear h hg hs hi
 by_cases q0:s.data.toList[i]?=some 42
 ·have C0:Hd (∀w,GR g b w->VS b s i 0 a w->Calls prog 65 #[.pointer (some ⟨g,0,none⟩),.string ⟨#[42]⟩] w fun e w'=>e=.returned (.bool (true))/\∃n,w'=w.drewN n):=fun w hg h=>by have:=CI.o 42 w hg h;rw[decide_eq_true q0]at this;exact this
  have HZ:=ae (YI q0);have hw:IntKind.i64.wrap ((i:Int)+1)=((i+1:Nat):Int):=by rw[IntKind.wrap_i64];have:=dC.o HZ.o;have:=lM.o;omega
  rw[HZ.o];clear q0;go_enter func118,ntmps118;go_wp2_with (go_at_call 65;refine(C0.o _ HG.o HV.o).mono ?_);rintro e u0 ⟨rfl,n,hn⟩;replace HV:=ae (HV.o.drew n);replace HG:=ae (HG.o.drew n);replace HW:=ae (az HW.o n);rw[<-hn]at HV HG HW;clear hn;have c1:=HV.o.c1;have f1:=HV.o.f1;have g0:u0.cell? ⟨g,0,none⟩=some (.pointer (some ⟨b,0,none⟩)):=HG.o;go_wp2;go_ret;exact⟨rfl,HV.o.set1 (i+1),aT HW.o _ _⟩
 ·by_cases q1:s.data.toList[i]?=some 120
  ·have C0:Hd (∀w,GR g b w->VS b s i 0 a w->Calls prog 65 #[.pointer (some ⟨g,0,none⟩),.string ⟨#[42]⟩] w fun e w'=>e=.returned (.bool (false))/\∃n,w'=w.drewN n):=fun w hg h=>by have:=CI.o 42 w hg h;rw[decide_eq_false q0]at this;exact this
   have C1:Hd (∀w,GR g b w->VS b s i 0 a w->Calls prog 65 #[.pointer (some ⟨g,0,none⟩),.string ⟨#[120]⟩] w fun e w'=>e=.returned (.bool (true))/\∃n,w'=w.drewN n):=fun w hg h=>by have:=CI.o 120 w hg h;rw[decide_eq_true q1]at this;exact this
   have HZ:=ae (YJ q1);have hw:IntKind.i64.wrap ((i:Int)+1)=((i+1:Nat):Int):=by rw[IntKind.wrap_i64];have:=dC.o HZ.o;have:=lM.o;omega
   rw[HZ.o];clear q0 q1;go_enter func118,ntmps118;go_wp2_with (go_at_call 65;refine(C0.o _ HG.o HV.o).mono ?_);rintro e u0 ⟨rfl,n,hn⟩;replace HV:=ae (HV.o.drew n);replace HG:=ae (HG.o.drew n);replace HW:=ae (az HW.o n);rw[<-hn]at HV HG HW;clear hn;go_wp2_with (go_at_call 65;refine(C1.o _ HG.o HV.o).mono ?_);rintro e u1 ⟨rfl,n,hn⟩;replace HV:=ae (HV.o.drew n);replace HG:=ae (HG.o.drew n);replace HW:=ae (az HW.o n);rw[<-hn]at HV HG HW;clear hn;have c1:=HV.o.c1;have f1:=HV.o.f1;have g0:u1.cell? ⟨g,0,none⟩=some (.pointer (some ⟨b,0,none⟩)):=HG.o;go_wp2;go_ret;exact⟨rfl,HV.o.set1 (i+1),aT HW.o _ _⟩
  ·by_cases q2:s.data.toList[i]?=some 88
   ·have C0:Hd (∀w,GR g b w->VS b s i 0 a w->Calls prog 65 #[.pointer (some ⟨g,0,none⟩),.string ⟨#[42]⟩] w fun e w'=>e=.returned (.bool (false))/\∃n,w'=w.drewN n):=fun w hg h=>by have:=CI.o 42 w hg h;rw[decide_eq_false q0]at this;exact this
    have C1:Hd (∀w,GR g b w->VS b s i 0 a w->Calls prog 65 #[.pointer (some ⟨g,0,none⟩),.string ⟨#[120]⟩] w fun e w'=>e=.returned (.bool (false))/\∃n,w'=w.drewN n):=fun w hg h=>by have:=CI.o 120 w hg h;rw[decide_eq_false q1]at this;exact this
    have C2:Hd (∀w,GR g b w->VS b s i 0 a w->Calls prog 65 #[.pointer (some ⟨g,0,none⟩),.string ⟨#[88]⟩] w fun e w'=>e=.returned (.bool (true))/\∃n,w'=w.drewN n):=fun w hg h=>by have:=CI.o 88 w hg h;rw[decide_eq_true q2]at this;exact this
    have HZ:=ae (YK q2);have hw:IntKind.i64.wrap ((i:Int)+1)=((i+1:Nat):Int):=by rw[IntKind.wrap_i64];have:=dC.o HZ.o;have:=lM.o;omega
    rw[HZ.o];clear q0 q1 q2;go_enter func118,ntmps118;go_wp2_with (go_at_call 65;refine(C0.o _ HG.o HV.o).mono ?_);rintro e u0 ⟨rfl,n,hn⟩;replace HV:=ae (HV.o.drew n);replace HG:=ae (HG.o.drew n);replace HW:=ae (az HW.o n);rw[<-hn]at HV HG HW;clear hn;go_wp2_with (go_at_call 65;refine(C1.o _ HG.o HV.o).mono ?_);rintro e u1 ⟨rfl,n,hn⟩;replace HV:=ae (HV.o.drew n);replace HG:=ae (HG.o.drew n);replace HW:=ae (az HW.o n);rw[<-hn]at HV HG HW;clear hn;go_wp2_with (go_at_call 65;refine(C2.o _ HG.o HV.o).mono ?_);rintro e u2 ⟨rfl,n,hn⟩;replace HV:=ae (HV.o.drew n);replace HG:=ae (HG.o.drew n);replace HW:=ae (az HW.o n);rw[<-hn]at HV HG HW;clear hn;have c1:=HV.o.c1;have f1:=HV.o.f1;have g0:u2.cell? ⟨g,0,none⟩=some (.pointer (some ⟨b,0,none⟩)):=HG.o;go_wp2;go_ret;exact⟨rfl,HV.o.set1 (i+1),aT HW.o _ _⟩
   ·have C0:Hd (∀w,GR g b w->VS b s i 0 a w->Calls prog 65 #[.pointer (some ⟨g,0,none⟩),.string ⟨#[42]⟩] w fun e w'=>e=.returned (.bool (false))/\∃n,w'=w.drewN n):=fun w hg h=>by have:=CI.o 42 w hg h;rw[decide_eq_false q0]at this;exact this
    have C1:Hd (∀w,GR g b w->VS b s i 0 a w->Calls prog 65 #[.pointer (some ⟨g,0,none⟩),.string ⟨#[120]⟩] w fun e w'=>e=.returned (.bool (false))/\∃n,w'=w.drewN n):=fun w hg h=>by have:=CI.o 120 w hg h;rw[decide_eq_false q1]at this;exact this
    have C2:Hd (∀w,GR g b w->VS b s i 0 a w->Calls prog 65 #[.pointer (some ⟨g,0,none⟩),.string ⟨#[88]⟩] w fun e w'=>e=.returned (.bool (false))/\∃n,w'=w.drewN n):=fun w hg h=>by have:=CI.o 88 w hg h;rw[decide_eq_false q2]at this;exact this
    have HZ:=ae (YL q0 q1 q2);rw[HZ.o];clear q0 q1 q2;go_enter func118,ntmps118;go_wp2_with (go_at_call 65;refine(C0.o _ HG.o HV.o).mono ?_);rintro e u0 ⟨rfl,n,hn⟩;replace HV:=ae (HV.o.drew n);replace HG:=ae (HG.o.drew n);replace HW:=ae (az HW.o n);rw[<-hn]at HV HG HW;clear hn;go_wp2_with (go_at_call 65;refine(C1.o _ HG.o HV.o).mono ?_);rintro e u1 ⟨rfl,n,hn⟩;replace HV:=ae (HV.o.drew n);replace HG:=ae (HG.o.drew n);replace HW:=ae (az HW.o n);rw[<-hn]at HV HG HW;clear hn;go_wp2_with (go_at_call 65;refine(C2.o _ HG.o HV.o).mono ?_);rintro e u2 ⟨rfl,n,hn⟩;replace HV:=ae (HV.o.drew n);replace HG:=ae (HG.o.drew n);replace HW:=ae (az HW.o n);rw[<-hn]at HV HG HW;clear hn;go_wp2;go_ret;exact⟨rfl,HV.o,HW.o⟩
def VP(v:Nat)(m y1 y2 y3:Int)(x4 x5:ByteArray)(w:World):Prop:=w.heap[v]?=some (.cells #[.int .i64 m,.int .i64 y1,.int .i64 y2,.int .i64 y3,.string x4,.string x5] 164 (0,0))
theorem VP.cells(h:VP v m y1 y2 y3 x4 x5 w):w.cell? ⟨v,0,none⟩=some (.int .i64 m)/\w.cell? ⟨v,1,none⟩=some (.int .i64 y1)/\w.cell? ⟨v,2,none⟩=some (.int .i64 y2)/\w.cell? ⟨v,3,none⟩=some (.int .i64 y3)/\w.cell? ⟨v,4,none⟩=some (.string x4)/\w.cell? ⟨v,5,none⟩=some (.string x5) :=
 ⟨by rw[aj h];rfl,by rw[aj h];rfl,by rw[aj h];rfl,by rw[aj h];rfl,by rw[aj h];rfl,by rw[aj h];rfl⟩
theorem VP.f(h:VP v m y1 y2 y3 x4 x5 w)(o:Nat):w.frozen? ⟨v,o,none⟩=false:=Lib.frozen_of_heap h o
theorem VP.drew(h:VP v m y1 y2 y3 x4 x5 w)(n:Nat):VP v m y1 y2 y3 x4 x5 (w.drewN n):=h
theorem VP.grow(h:VP v m y1 y2 y3 x4 x5 w)(hg:w.grownBy w' (some b))(hn:v≠b):VP v m y1 y2 y3 x4 x5 w':=by
 unfold VP at h ⊢;rw[hg.block v ((bJ h)) (by simpa using hn)];exact h
theorem VP.grow0(h:VP v m y1 y2 y3 x4 x5 w)(hg:w.grownBy w' none):VP v m y1 y2 y3 x4 x5 w':=by
 unfold VP at h ⊢;rw[hg.block v ((bJ h)) (by simp)];exact h
theorem VP.other{u:Nat}(h:VP v m y1 y2 y3 x4 x5 w)(hn:v≠u)(o:Nat)(x:Value):VP v m y1 y2 y3 x4 x5 (w.setCell ⟨u,o,none⟩ x):=by
 unfold VP at h ⊢;rw[<-h];exact heap_setCell_other w _ v x hn
theorem VP.setN(h:VP v m y1 y2 y3 x4 x5 w)(z:Int):VP v z y1 y2 y3 x4 x5 (w.setCell ⟨v,0,none⟩ (.int .i64 z)):=by
 unfold VP at h ⊢;simp[World.setCell,Array.getElem?_modify,h]
theorem VP.set0(h:VP v m y1 y2 y3 x4 x5 w)(z:Int):VP v m z y2 y3 x4 x5 (w.setCell ⟨v,1,none⟩ (.int .i64 z)):=by
 unfold VP at h ⊢;simp[World.setCell,Array.getElem?_modify,h]
theorem VP.set1(h:VP v m y1 y2 y3 x4 x5 w)(z:Int):VP v m y1 z y3 x4 x5 (w.setCell ⟨v,2,none⟩ (.int .i64 z)):=by
 unfold VP at h ⊢;simp[World.setCell,Array.getElem?_modify,h]
theorem VP.set2(h:VP v m y1 y2 y3 x4 x5 w)(z:Int):VP v m y1 y2 z x4 x5 (w.setCell ⟨v,3,none⟩ (.int .i64 z)):=by
 unfold VP at h ⊢;simp[World.setCell,Array.getElem?_modify,h]
theorem VP.set3(h:VP v m y1 y2 y3 x4 x5 w)(z:ByteArray):VP v m y1 y2 y3 z x5 (w.setCell ⟨v,4,none⟩ (.string z)):=by
 unfold VP at h ⊢;simp[World.setCell,Array.getElem?_modify,h]
theorem VP.set4(h:VP v m y1 y2 y3 x4 x5 w)(z:ByteArray):VP v m y1 y2 y3 x4 z (w.setCell ⟨v,5,none⟩ (.string z)):=by
 unfold VP at h ⊢;simp[World.setCell,Array.getElem?_modify,h]
def ZK(b v:Nat)(s:ByteArray)(i:Nat)(m y1 y2 y3:Int)(w w':World):Prop:=QC (VP v m y1 y2 y3) b v s i w w'
theorem aiq(b v:Nat)(m y1 y2 y3:Int)(hn:b≠v):Held b v 1 (VP v m y1 y2 y3):=⟨fun h hg=>h.grow hg hn.symm,fun x h=>h.set3 x,fun x h=>h.set4 x,fun h=>⟨h.cells.2.2.2.2.1,h.cells.2.2.2.2.2,h.f⟩⟩
theorem air(b v:Nat)(s:ByteArray)(i:Nat)(E:Int)(hE:E≠0)(a:Nat)(w:World)(h:VS b s i E a w) :
  Calls prog 90 #[.pointer (some ⟨b,0,none⟩),.pointer (some ⟨v,1,none⟩)] w fun e w'=>e=.returned (.tuple #[])/\∃n,w'=w.drewN n:=Zc b v 1 s i E hE a w h
theorem ais(b v:Nat)(s:ByteArray)(i:Nat)(a:Nat)(m y1 y2 y3:Int)(w:World)(hi:i<=s.size)(h:VS b s i 0 a w)(hv:VP v m y1 y2 y3 ⟨#[]⟩ ⟨#[]⟩ w)(hbv:b≠v)(hs:s.size<2 ^ 62) :
  Calls prog 90 #[.pointer (some ⟨b,0,none⟩),.pointer (some ⟨v,1,none⟩)] w fun e w'=>e=.returned (.tuple #[])/\ZK b v s i m y1 y2 y3 w w':=Ze b v 1 _ (aiq b v m y1 y2 y3 hbv) s i a w hi h hv hbv hs
def GY(w:World)(A:Nat)(m y1 y2 y3:Int)(x4 x5:ByteArray):World:=(((((w.setCell ⟨A,0,none⟩ (.int .i64 m)).setCell ⟨A,1,none⟩ (.int .i64 y1)).setCell ⟨A,2,none⟩ (.int .i64 y2)).setCell ⟨A,3,none⟩ (.int .i64 y3)).setCell ⟨A,4,none⟩ (.string x4)).setCell ⟨A,5,none⟩ (.string x5)
theorem ZL(h:VP A n z1 z2 z3 z4 z5 w)(m y1 y2 y3:Int)(x4 x5:ByteArray):VP A m y1 y2 y3 x4 x5 (GY w A m y1 y2 y3 x4 x5):=by
 unfold VP at h ⊢;simp[GY,World.setCell,Array.getElem?_modify,h]
theorem ZM{a:Nat}(h:VS b s j E a w)(hn:b≠A)(m y1 y2 y3:Int)(x4 x5:ByteArray):VS b s j E a (GY w A m y1 y2 y3 x4 x5):=(((((h.other hn _ _).other hn _ _).other hn _ _).other hn _ _).other hn _ _).other hn _ _
theorem ZN(h:w.grownBy W (some b))(hA:w.heap.size<=A)(m y1 y2 y3:Int)(x4 x5:ByteArray):w.grownBy (GY W A m y1 y2 y3 x4 x5) (some b):=dQ (dQ (dQ (dQ (dQ (dQ h hA _ _) hA _ _) hA _ _) hA _ _) hA _ _) hA _ _
theorem G2.gb(h:w.grownBy u (some b))(hv:w.heap.size<=v)(hg:G2 b v u u'):w.grownBy u' (some b) :=
 ⟨hg.os.trans h.os,hg.tape.trans h.tape,hg.output.trans h.output,Nat.le_trans h.size hg.size,fun k hk hn=>(hg.block k (Nat.lt_of_lt_of_le hk h.size) (by simpa using hn) (by omega)).trans (h.block k hk hn)⟩
theorem G2.vp(h:VP A n z1 z2 z3 z4 z5 u)(hg:G2 b v u u')(h1:A≠b)(h2:A≠v):VP A n z1 z2 z3 z4 z5 u':=by
 unfold VP at h ⊢;rw[hg.block A ((bJ h)) h1 h2];exact h
theorem G2.gr(h:GR g b u)(hg:G2 b v u u')(h1:g≠b)(h2:g≠v)(hl:g<u.heap.size):GR g b u':=by
 unfold GR at h ⊢;unfold World.cell? at h ⊢;rw[hg.block g hl h1 h2];exact h
theorem GR.lt(h:GR g b w):g<w.heap.size:=cell_lt h
def Q9(b:Nat)(s:ByteArray)(R:Int × Nat × Pa)(w:World)(e:Ending)(w':World):Prop :=
 ∃(m y1 y2 y3:Int) (P Q:ByteArray) (j:Nat) (c:Nat),e=.returned (.agg #[.int .i64 m,.int .i64 y1,.int .i64 y2,.int .i64 y3,.string P,.string Q])/\VS b s j R.1 c w'/\w.grownBy w' (some b)/\(R.1=0->j=R.2.1/\m=(R.2.2.n:Int)/\y1=R.2.2.a/\y2=R.2.2.b/\y3=R.2.2.c/\P=⟨R.2.2.pre.toArray⟩)/\(¬R.1=0->c=R.2.1)
def ait(b:Nat)(s:ByteArray)(E:Int)(a:Nat)(w:World)(e:Ending)(w':World):Prop :=
 ∃(m y1 y2 y3:Int) (P Q:ByteArray) (j:Nat),e=.returned (.agg #[.int .i64 m,.int .i64 y1,.int .i64 y2,.int .i64 y3,.string P,.string Q])/\VS b s j E a w'/\w.grownBy w' (some b)/\j<=s.size
structure PT(g b A:Nat)(s:ByteArray)(w:World)(j:Nat)(E:Int)(d:Nat)(m y1 y2 y3:Int)(P Q:ByteArray)(W:World):Prop where
 vs:VS b s j E d W
 gr:GR g b W
 pa:VP A 0 0 0 0 ⟨#[]⟩ ⟨#[]⟩ W
 pc:VP (A+1) m y1 y2 y3 P Q W
 gw:w.grownBy W (some b)
 ns:b≠A/\b≠A+1/\g≠A/\g≠A+1/\g≠b/\A≠A+1/\A≠b/\A+1≠b
 le:w.heap.size<=A
def Am(w:World):World:=(w.alloc (.cells #[.int .i64 0,.int .i64 0,.int .i64 0,.int .i64 0,.string ⟨#[]⟩,.string ⟨#[]⟩] 164)).alloc (.cells #[.int .i64 0,.int .i64 0,.int .i64 0,.int .i64 0,.string ⟨#[]⟩,.string ⟨#[]⟩] 164)
theorem ZO(w:World):(w.alloc (.cells #[.int .i64 0,.int .i64 0,.int .i64 0,.int .i64 0,.string ⟨#[]⟩,.string ⟨#[]⟩] 164)).alloc (.cells #[.int .i64 0,.int .i64 0,.int .i64 0,.int .i64 0,.string ⟨#[]⟩,.string ⟨#[]⟩] 164)=Am w:=rfl
theorem PT.new(h:VS b s j E d w)(hg:GR g b w)(hgb:g≠b):PT g b w.heap.size s w j E d 0 0 0 0 ⟨#[]⟩ ⟨#[]⟩ (Am w):=by
 have h1:=(bJ h);have h2:=GR.lt hg;have hgW:w.grownBy (Am w) none:=aH (aH (ax w none) _) _;refine⟨?_,hg.grow hgW,?_,JD w _ _,iy hgW _,by omega,Nat.le_refl _⟩
 ·show(Am w).heap[b]?=_;rw[hgW.block b h1 (by simp)];exact h
 ·unfold VP Am;rw[Lib.alloc_old _ _ _ (by simp)];exact heap_alloc_new w _
theorem PT.go(h:PT g b A s w j E d m y1 y2 y3 P Q W)(hv:VS b s j' E' d' W')(hg:W.grownBy W' (some b)):PT g b A s w j' E' d' m y1 y2 y3 P Q W':=by
 have n:=h.ns;exact⟨hv,h.gr.growb hg n.2.2.2.2.1,h.pa.grow hg n.2.2.2.2.2.2.1,h.pc.grow hg n.2.2.2.2.2.2.2,ak h.gw hg,n,h.le⟩
theorem PT.drew(h:PT g b A s w j E d m y1 y2 y3 P Q W)(n:Nat):PT g b A s w j E d m y1 y2 y3 P Q (W.drewN n):=⟨h.vs.drew _,h.gr,h.pa,h.pc,az h.gw _,h.ns,h.le⟩
theorem PT.put{m':Int}{o p:Nat}{x y:Value}(h:PT g b A s w j E d m y1 y2 y3 P Q W)(hc:VP (A+1) m' z1 z2 z3 P Q ((W.setCell ⟨A+1,o,none⟩ x).setCell ⟨A+1,p,none⟩ y)):PT g b A s w j E d m' z1 z2 z3 P Q ((W.setCell ⟨A+1,o,none⟩ x).setCell ⟨A+1,p,none⟩ y):=by
 obtain⟨n1,n2,n3,n4,n5,n6,n7,n8⟩:=h.ns;have l:=Nat.le_succ_of_le h.le;exact⟨(h.vs.other n2 _ _).other n2 _ _,(h.gr.other n4 _ _).other n4 _ _,(h.pa.other n6 _ _).other n6 _ _,hc,dQ (dQ h.gw l _ _) l _ _,h.ns,h.le⟩
theorem PT.adv(h:PT g b A s w j E d m y1 y2 y3 P Q W):PT g b A s w (j+1) E d m y1 y2 y3 P Q (W.setCell ⟨b,1,none⟩ (.int .i64 ((j:Int)+1))):=by
 obtain⟨n1,n2,n3,n4,n5,n6,n7,n8⟩:=h.ns;rw[show((j:Int)+1)=((j+1:Nat):Int) by omega];exact⟨h.vs.set1 _,h.gr.other n5 _ _,h.pa.other n7 _ _,h.pc.other n8 _ _,aT h.gw _ _,h.ns,h.le⟩
theorem PT.tail{P' Q':ByteArray}(h:PT g b A s w j E d m y1 y2 y3 P Q W)(hv:VS b s j' E' d' W')(hp:VP (A+1) m y1 y2 y3 P' Q' W')(hg:G2 b (A+1) W W'):PT g b A s w j' E' d' m y1 y2 y3 P' Q' W':=by
 obtain⟨n1,n2,n3,n4,n5,n6,n7,n8⟩:=h.ns;exact⟨hv,G2.gr h.gr hg n5 n4 (GR.lt h.gr),G2.vp h.pa hg n7 n6,hp,G2.gb h.gw (Nat.le_succ_of_le h.le) hg,h.ns,h.le⟩
def FinR(R:Int × Nat × Pa)(E:Int)(j d:Nat)(m y1 y2 y3:Int)(P:ByteArray):Prop:=E=R.1/\(R.1=0->j=R.2.1/\m=(R.2.2.n:Int)/\y1=R.2.2.a/\y2=R.2.2.b/\y3=R.2.2.c/\P=⟨R.2.2.pre.toArray⟩)/\(¬R.1=0->d=R.2.1)
theorem FinR.ok{R:Int × Nat × Pa}{n:Nat}(h:R=(0,j,⟨n,y1,y2,y3,[]⟩)):FinR R 0 j d (n:Int) y1 y2 y3 ⟨#[]⟩:=by
 rw[h];exact⟨rfl,fun _=>⟨rfl,rfl,rfl,rfl,rfl,rfl⟩,fun h=>absurd rfl h⟩
theorem FinR.bad{R:Int × Nat × Pa}(hE:¬E=0)(h:R=(E,d,pa0)):FinR R E j d m y1 y2 y3 P:=by
 rw[h];exact⟨rfl,fun h=>absurd h hE,fun _=>rfl⟩
theorem PT.fin{R:Int × Nat × Pa}(h:PT g b A s w j E d m y1 y2 y3 P Q W)(z:FinR R E j d m y1 y2 y3 P):Q9 b s R w (.returned (.agg #[.int .i64 m,.int .i64 y1,.int .i64 y2,.int .i64 y3,.string P,.string Q])) (GY W A m y1 y2 y3 P Q) :=
 ⟨m,y1,y2,y3,P,Q,j,d,rfl,by rw[<-z.1];exact ZM h.vs h.ns.1 _ _ _ _ _ _,ZN h.gw h.le _ _ _ _ _ _,z.2⟩
def wJ(x:Bool)(i:Nat):Nat:=if x=true then i+1 else i
theorem Rf{i:Nat}{x:Int}{R:Int × Nat × Pa}(F:Nat->Int->Int × Nat × Pa)(hR:R=if(rdNum l i).1=0 then F (rdNum l i).2.2 (rdNum l i).2.1 else((rdNum l i).1,(rdNum l i).2.2,pa0))(h1:E=(rdNum l i).1)(h2:E=0->x=(rdNum l i).2.1/\j=(rdNum l i).2.2/\j<=N)(h3:E≠0->d=(rdNum l i).2.2):(E=0->R=F j x/\j<=N)/\(¬E=0->R=(E,d,pa0)):=by
 constructor
 ·intro h0;obtain⟨e1,e2,e3⟩:=h2 h0;exact⟨by rw[hR,if_pos (h1.symm.trans h0),e1,e2],e3⟩
 ·intro h0;rw[hR,if_neg (fun h=>h0 (h1.trans h)),h3 h0,h1]
theorem FinR.dot{R F:Int × Nat × Pa}{n:Nat}(hs:(E=0->R=F/\j<=N)/\(¬E=0->R=(E,d,pa0)))(hc:decide (E=0/\l[j]?=some 46)=false)(hF:¬l[j]?=some 46->F=(0,j,⟨n,y1,y2,y3,[]⟩)):FinR R E j d (n:Int) y1 y2 y3 ⟨#[]⟩:=by
 by_cases hE:E=0
 ·subst hE;exact FinR.ok ((hs.1 rfl).1.trans (hF (fun h=>of_decide_eq_false hc ⟨rfl,h⟩)))
 ·exact FinR.bad hE (hs.2 hE)
theorem aiu(g b:Nat)(s:ByteArray)(i:Nat)(E:Int)(a:Nat)(w:World)(hE:¬E=0)(hi:i<=s.size)(hgb:g≠b)(hg:GR g b w)(h:VS b s i E a w)(hs:s.size<2 ^ 61) :
  Calls prog 94 #[.pointer (some ⟨g,0,none⟩)] w (ait b s E a w):=by
 have CW:=ae (fun w (h1:GR g b w) (h2:VS b s i E a w)=>aio g b s i E a w hE h1 h2);have CN:=ae (fun w (h1:VS b s i E a w)=>ail b s i E hE a w hi h1 (by omega));have CI:=ae (fun j t w (h1:GR g b w) (h2:VS b s j E a w)=>GX g b s t j E a w hE h1 h2);have hT:=PT.new h hg hgb;have HG:=ae hg;have HV:=ae h;clear h hg hgb hE hs hi;go_enter func94,ntmps94;go_wp2_with (fail);obtain⟨A,hA⟩:=zN (w.heap.size);obtain⟨W,hW⟩:=zN (Am w);rw[hA,hW]at hT;have HT:=ae hT
 try rw[ZO,hW]
 try rw[hA]
 clear hW hA hT;go_wp2_with (go_at_call 118;refine(CW.o _ HT.o.gr HT.o.vs).mono ?_);rintro e u1 ⟨rfl,n,hn⟩;replace HT:=ae (HT.o.drew n);rw[<-hn]at HT;clear hn;have g0:u1.cell? ⟨g,0,none⟩=some (.pointer (some ⟨b,0,none⟩)):=HT.o.gr;go_wp2_with (first|(go_at_call 88;refine(CN.o _ HT.o.vs).mono ?_));rintro e u2 ⟨v,j,rfl,hv,hg,hj⟩;have HJ:=ae hj;replace HT:=ae (HT.o.go hv hg);clear hv hg hj g0;obtain⟨c0,c1,c2,c3,c4,c5⟩:=HT.o.pc.cells;have cf:=HT.o.pc.f;replace HT:=ae (HT.o.put ((HT.o.pc.set0 v).setN 1));go_wp2_with (go_at_call 65;refine(CI.o j _ _ HT.o.gr HT.o.vs).mono ?_);rintro e u3 ⟨rfl,n,hn⟩;replace HT:=ae (HT.o.drew n);rw[<-hn]at HT;clear hn c0 c1 c2 c3 c4 c5 cf;obtain⟨a0,a1,a2,a3,a4,a5⟩:=HT.o.pa.cells;have af:=HT.o.pa.f;obtain⟨c0,c1,c2,c3,c4,c5⟩:=HT.o.pc.cells;have cf:=HT.o.pc.f;obtain⟨n1,n2,n3,n4,n5,n6,n7,n8⟩:=HT.o.ns
 go_wp2;exact bodyPost_ret (results_cell_row rfl _ _ A _ _ (0,0) _ rfl (ZL HT.o.pa 1 v 0 0 ⟨#[]⟩ ⟨#[]⟩) underlying164 rfl (by kernel_rfl)) rfl ⟨1,v,0,0,⟨#[]⟩,⟨#[]⟩,j,rfl,ZM HT.o.vs HT.o.ns.1 _ _ _ _ _ _,ZN HT.o.gw HT.o.le _ _ _ _ _ _,HJ.o⟩
theorem ZP(g b:Nat)(s:ByteArray)(i:Nat)(a:Nat)(w:World)(hi:i<=s.size)(hgb:g≠b)(hg:GR g b w)(h:VS b s i 0 a w)(hs:s.size<2 ^ 61) :
  Calls prog 94 #[.pointer (some ⟨g,0,none⟩)] w (Q9 b s (ah s.data.toList i) w):=by
 have CW:Hd (∀i a w,i<=s.size->GR g b w->VS b s i 0 a w->Calls prog 118 #[.pointer (some ⟨g,0,none⟩)] w fun e w'=>e=.returned (.bool (eu s.data.toList i))/\VS b s (wJ (eu s.data.toList i) i) 0 a w'/\w.grownBy w' (some b)):=fun i a w hi h1 h2=>aip g b s i a w hi hgb h1 h2 hs
 have CN:=ae (fun i a w (hi:i<=s.size) (h1:VS b s i 0 a w)=>XA b s i a w hi h1 (by omega));have CT:=ae (fun(v:Nat) (i:Nat) (c:Nat) (m:Int) (y1:Int) (y2:Int) (y3:Int) w (hi:i<=s.size) (h1:VS b s i 0 c w) (h2:VP v m y1 y2 y3 ⟨#[]⟩ ⟨#[]⟩ w) (h3:b≠v)=>ais b v s i c m y1 y2 y3 w hi h1 h2 h3 (by omega));have GZ:=ae (fun(v:Nat) (i:Nat) (E:Int) (c:Nat) w (hE:¬E=0) (h1:VS b s i E c w)=>air b v s i E hE c w h1);obtain⟨l,hl⟩:=zN (s.data.toList);have hll:l.length=s.size:=by rw[<-hl];simp
 have CI:Hd (∀(j:Nat) (E:Int) (c:Nat) w,(E=0->j<=s.size)->GR g b w->VS b s j E c w->Calls prog 65 #[.pointer (some ⟨g,0,none⟩),.string ⟨#[46]⟩] w fun e w'=>e=.returned (.bool (decide (E=0/\l[j]?=some 46)))/\∃n,w'=w.drewN n):=fun j E c w hj h1 h2=>by
  by_cases hE:E=0
  ·subst hE;have:=Le g b s j 46 c w (hj rfl) h1 h2 hs;rw[hl]at this;rw[show decide ((0:Int)=0/\l[j]?=some 46)=decide (l[j]?=some 46) by simp];exact this
  ·rw[decide_eq_false (fun h=>hE h.1)];exact GX g b s _ j E c w hE h1 h2
 rw[hl]at CW ⊢;have Rh:Hd (∀i w e w',Xv b s i w e w'->∃(v:Int) (j:Nat) (E:Int) (c:Nat),e=.returned (.int .i64 v)/\VS b s j E c w'/\w.grownBy w' (some b)/\E=(rdNum l i).1/\(E=0->v=(rdNum l i).2.1/\j=(rdNum l i).2.2/\j<=s.size)/\(E≠0->c=(rdNum l i).2.2)):=fun i w e w' h=>by rw[<-hl];exact h
 have kJ:Hd (∀(v i:Nat) (m y1 y2 y3:Int) (w w':World),ZK b v s i m y1 y2 y3 w w'->∃(j:Nat) (E:Int) (c:Nat) (P B:ByteArray),VS b s j E c w'/\VP v m y1 y2 y3 P B w'/\G2 b v w w'/\E=(aV l i).1/\(E=0->P=⟨(aV l i).2.2.1.toArray⟩/\B=⟨(aV l i).2.2.2.toArray⟩/\j=(aV l i).2.1/\j<=s.size)/\(E≠0->c=(aV l i).2.1)):=fun v i m y1 y2 y3 w w' h=>by rw[<-hl];exact h
 obtain⟨R,hR⟩:=zN (ah l i);rw[hR];have HR:Hd (R=if eu l i=true then(0,i+1,pa0) else if(rdNum l i).1=0 then lX l (rdNum l i).2.2 (rdNum l i).2.1 else((rdNum l i).1,(rdNum l i).2.2,pa0)):=hR.symm;have Ko:Hd (∀i,l[i]?=some 46->i+1<=s.size):=fun i hc=>by have:=lF hc;rw[hll]at this;exact this
 have qW:=ae hi;have lM:=ae hs;have hT:=PT.new h hg hgb;have HG:=ae hg;have HV:=ae h;clear hl hll hR h hg hgb hs hi;go_enter func94,ntmps94;go_wp2_with (fail);obtain⟨A,hA⟩:=zN (w.heap.size);obtain⟨W,hW⟩:=zN (Am w);rw[hA,hW]at hT;have HT:=ae hT
 try rw[ZO,hW]
 try rw[hA]
 clear hW hA hT;go_wp2_with (go_at_call 118;refine(CW.o i a _ qW.o HT.o.gr HT.o.vs).mono ?_);rintro e v0 ⟨rfl,hv,hg⟩;replace HT:=ae (HT.o.go hv hg);obtain⟨wb,hw⟩:=zN (eu l i);rw[hw]at HT HR ⊢;clear hv hg hw
 cases wb
 case' true=>
  have HZ:=ae (FinR.ok (d:=a) HR.o);clear HR
 case' false=>
  have HN:Hd (R=if(rdNum l i).1=0 then lX l (rdNum l i).2.2 (rdNum l i).2.1 else((rdNum l i).1,(rdNum l i).2.2,pa0)):=HR.o;clear HR;have g0:v0.cell? ⟨g,0,none⟩=some (.pointer (some ⟨b,0,none⟩)):=HT.o.gr;go_wp2_with (first|(go_at_call 88;refine(CN.o i a _ qW.o HT.o.vs).mono ?_));intro e z0 pg;obtain⟨x1,j0,E0,d0,rfl,hv,hg,hE,hok,herr⟩:=Rh.o _ _ _ _ pg;replace HT:=ae (HT.o.go hv hg);have HS:=ae (Rf (lX l) HN.o hE hok herr);clear hv hg pg hE hok herr g0 HN;obtain⟨c0,c1,c2,c3,c4,c5⟩:=HT.o.pc.cells;have cf:=HT.o.pc.f;have g0:z0.cell? ⟨g,0,none⟩=some (.pointer (some ⟨b,0,none⟩)):=HT.o.gr;have n4:=HT.o.ns.2.2.2.1;replace HT:=ae (HT.o.put ((HT.o.pc.set0 x1).setN 1));go_wp2_with (go_at_call 65;refine(CI.o j0 E0 d0 _ (fun h=>(HS.o.1 h).2) HT.o.gr HT.o.vs).mono ?_);rintro e y0 ⟨rfl,n,hn⟩;replace HT:=ae (HT.o.drew n);rw[<-hn]at HT
  clear hn c0 c1 c2 c3 c4 c5 cf g0 n4
  cases hc:decide (E0=0/\l[j0]?=some 46)
  case' false=>
   have HZ:=ae (FinR.dot (n:=1) HS.o hc (fun h=>by show lX _ _ _=_;unfold lX;rw[if_neg h]));clear hc HS
  case' true=>
   obtain⟨rfl,hc'⟩:=of_decide_eq_true hc;have HR:Hd (R=if eu l (j0+1)=true then(0,j0+1+1,⟨1,x1,0,0,[]⟩) else if(rdNum l (j0+1)).1=0 then lW l (rdNum l (j0+1)).2.2 x1 (rdNum l (j0+1)).2.1 else((rdNum l (j0+1)).1,(rdNum l (j0+1)).2.2,pa0)):=(HS.o.1 rfl).1.trans (by show lX _ _ _=_;unfold lX;rw[if_pos hc']);have oq:=ae (Ko.o _ hc');have hwr:IntKind.i64.wrap ((j0:Int)+1)=((j0+1:Nat):Int):=by rw[IntKind.wrap_i64];have:=oq.o;have:=lM.o;omega
   clear hc hc' HS;have b1:=HT.o.vs.c1;have bf:=HT.o.vs.f1;have g0:y0.cell? ⟨g,0,none⟩=some (.pointer (some ⟨b,0,none⟩)):=HT.o.gr;go_wp2_with (fail);replace HT:=ae HT.o.adv;obtain⟨q0,hq⟩:=zN (y0.setCell ⟨b,1,none⟩ (.int .i64 ((j0:Int)+1)));rw[hq]at HT
   try rw[hq]
   clear hq b1 bf g0 hwr;refine(CW.o (j0+1) d0 _ oq.o HT.o.gr HT.o.vs).mono ?_;rintro e v1 ⟨rfl,hv,hg⟩;replace HT:=ae (HT.o.go hv hg);obtain⟨wb,hw⟩:=zN (eu l (j0+1));rw[hw]at HT HR ⊢;clear hv hg hw
   cases wb
   case' true=>
    have HZ:=ae (FinR.ok (d:=d0) HR.o);clear HR
   case' false=>
    have HN:Hd (R=if(rdNum l (j0+1)).1=0 then lW l (rdNum l (j0+1)).2.2 x1 (rdNum l (j0+1)).2.1 else((rdNum l (j0+1)).1,(rdNum l (j0+1)).2.2,pa0)):=HR.o;clear HR;have g0:v1.cell? ⟨g,0,none⟩=some (.pointer (some ⟨b,0,none⟩)):=HT.o.gr;go_wp2_with (first|(go_at_call 88;refine(CN.o (j0+1) d0 _ oq.o HT.o.vs).mono ?_));intro e z1 pg;obtain⟨x2,j1,E1,d1,rfl,hv,hg,hE,hok,herr⟩:=Rh.o _ _ _ _ pg;replace HT:=ae (HT.o.go hv hg);have HS:=ae (Rf (fun j x=>lW l j x1 x) HN.o hE hok herr);clear hv hg pg hE hok herr g0 HN;obtain⟨c0,c1,c2,c3,c4,c5⟩:=HT.o.pc.cells;have cf:=HT.o.pc.f;have g0:z1.cell? ⟨g,0,none⟩=some (.pointer (some ⟨b,0,none⟩)):=HT.o.gr;have n4:=HT.o.ns.2.2.2.1;replace HT:=ae (HT.o.put ((HT.o.pc.set1 x2).setN 2));go_wp2_with (go_at_call 65;refine(CI.o j1 E1 d1 _ (fun h=>(HS.o.1 h).2) HT.o.gr HT.o.vs).mono ?_);rintro e y1 ⟨rfl,n,hn⟩
    replace HT:=ae (HT.o.drew n);rw[<-hn]at HT;clear hn c0 c1 c2 c3 c4 c5 cf g0 n4
    cases hc:decide (E1=0/\l[j1]?=some 46)
    case' false=>
     have HZ:=ae (FinR.dot (n:=2) HS.o hc (fun h=>by show lW _ _ _ _=_;unfold lW;rw[if_neg h]));clear hc HS
    case' true=>
     obtain⟨rfl,hc'⟩:=of_decide_eq_true hc;have HR:Hd (R=if eu l (j1+1)=true then(0,j1+1+1,⟨2,x1,x2,0,[]⟩) else if(rdNum l (j1+1)).1=0 then pa3 l (rdNum l (j1+1)).2.2 x1 x2 (rdNum l (j1+1)).2.1 else((rdNum l (j1+1)).1,(rdNum l (j1+1)).2.2,pa0)):=(HS.o.1 rfl).1.trans (by show lW _ _ _ _=_;unfold lW;rw[if_pos hc']);have HJ2:=ae (Ko.o _ hc');have hwr:IntKind.i64.wrap ((j1:Int)+1)=((j1+1:Nat):Int):=by rw[IntKind.wrap_i64];have:=HJ2.o;have:=lM.o;omega
     clear hc hc' HS;have b1:=HT.o.vs.c1;have bf:=HT.o.vs.f1;have g0:y1.cell? ⟨g,0,none⟩=some (.pointer (some ⟨b,0,none⟩)):=HT.o.gr;go_wp2_with (fail);replace HT:=ae HT.o.adv;obtain⟨q1,hq⟩:=zN (y1.setCell ⟨b,1,none⟩ (.int .i64 ((j1:Int)+1)));rw[hq]at HT
     try rw[hq]
     clear hq b1 bf g0 hwr;refine(CW.o (j1+1) d1 _ HJ2.o HT.o.gr HT.o.vs).mono ?_;rintro e v2 ⟨rfl,hv,hg⟩;replace HT:=ae (HT.o.go hv hg);obtain⟨wb,hw⟩:=zN (eu l (j1+1));rw[hw]at HT HR ⊢;clear hv hg hw
     cases wb
     case' true=>
      have HZ:=ae (FinR.ok (d:=d1) HR.o);clear HR
     case' false=>
      have HN:Hd (R=if(rdNum l (j1+1)).1=0 then pa3 l (rdNum l (j1+1)).2.2 x1 x2 (rdNum l (j1+1)).2.1 else((rdNum l (j1+1)).1,(rdNum l (j1+1)).2.2,pa0)):=HR.o;clear HR;have g0:v2.cell? ⟨g,0,none⟩=some (.pointer (some ⟨b,0,none⟩)):=HT.o.gr;go_wp2_with (first|(go_at_call 88;refine(CN.o (j1+1) d1 _ HJ2.o HT.o.vs).mono ?_));intro e z2 pg;obtain⟨x3,j2,E2,d2,rfl,hv,hg,hE,hok,herr⟩:=Rh.o _ _ _ _ pg;replace HT:=ae (HT.o.go hv hg);have HS:=ae (Rf (fun j x=>pa3 l j x1 x2 x) HN.o hE hok herr);clear hv hg pg hE hok herr g0 HN;obtain⟨c0,c1,c2,c3,c4,c5⟩:=HT.o.pc.cells;have cf:=HT.o.pc.f;have g0:z2.cell? ⟨g,0,none⟩=some (.pointer (some ⟨b,0,none⟩)):=HT.o.gr;have n4:=HT.o.ns.2.2.2.1;replace HT:=ae (HT.o.put ((HT.o.pc.set2 x3).setN 3))
      by_cases hz:E2=0
      case' pos=>
       subst hz;obtain⟨hr3,hj3⟩:=HS.o.1 rfl;go_wp2_with (go_at_call 90;refine(CT.o (A+1) j2 d2 3 x1 x2 x3 _ hj3 HT.o.vs HT.o.pc HT.o.ns.2.1).mono ?_);rintro e y2 ⟨rfl,htp⟩;obtain⟨jt,Et,ct,P,Q,hv,hvp,hg2,hE,hok,herr⟩:=kJ.o _ _ _ _ _ _ _ _ htp;replace HT:=ae (HT.o.tail hv hvp hg2);have HZ:Hd (FinR R Et jt ct 3 x1 x2 x3 P):=by
        rw[hr3];show FinR (pa3 l j2 x1 x2 x3) _ _ _ _ _ _ _ _;unfold pa3
        by_cases h0:Et=0
        ·obtain⟨p1,p2,p3,p4⟩:=hok h0;rw[if_pos (hE.symm.trans h0)];exact⟨h0,fun _=>⟨p3,rfl,rfl,rfl,rfl,p1⟩,fun h=>absurd rfl h⟩
        ·rw[if_neg (fun h=>h0 (hE.trans h))];exact⟨hE,fun h=>absurd (hE.trans h) h0,fun _=>herr h0⟩
       clear hv hvp hg2 hE hok herr htp c0 c1 c2 c3 c4 c5 cf g0 n4 hr3 hj3 HS
      case' neg=>
       have HZ:=ae (FinR.bad (j:=j2) (m:=3) (y1:=x1) (y2:=x2) (y3:=x3) (P:=⟨#[]⟩) hz (HS.o.2 hz));go_wp2_with (go_at_call 90;refine(GZ.o (A+1) j2 E2 d2 _ hz HT.o.vs).mono ?_);rintro e y2 ⟨rfl,n,hn⟩;replace HT:=ae (HT.o.drew n);rw[<-hn]at HT;clear hn c0 c1 c2 c3 c4 c5 cf g0 n4 hz HS
 all_goals (
  obtain⟨a0,a1,a2,a3,a4,a5⟩:=HT.o.pa.cells;have af:=HT.o.pa.f;obtain⟨c0,c1,c2,c3,c4,c5⟩:=HT.o.pc.cells;have cf:=HT.o.pc.f;obtain⟨n1,n2,n3,n4,n5,n6,n7,n8⟩:=HT.o.ns;go_wp2;exact bodyPost_ret (results_cell_row rfl _ _ A _ _ (0,0) _ rfl (ZL HT.o.pa _ _ _ _ _ _) underlying164 rfl (by kernel_rfl)) rfl (HT.o.fin HZ.o))
def dsT(k:Nat):List UInt8:=match k with|0=>[61]|1=>[62,61]|2=>[60,61]|3=>[62]|4=>[60]|5=>[94]|6=>[126]|_=>[]
def rC(l:List UInt8)(i k:Nat):Bool:=Lib.hasPrefix (l.drop i) (dsT k)
theorem yS(l:List UInt8)(i:Nat):ai l i=if rC l i 1=true then(1,i+2) else if rC l i 2=true then(2,i+2) else if rC l i 3=true then(3,i+1) else if rC l i 4=true then(4,i+1) else if rC l i 5=true then(5,i+1) else if rC l i 6=true then(6,i+1) else if rC l i 0=true then(0,i+1) else(-1,i):=by
 have g4:fG l i 4=decide (l[i]?=some 61):=qJ l i 61;have g5:fG l i 5=decide (l[i]?=some 94):=qJ l i 94;have g6:fG l i 6=decide (l[i]?=some 126):=qJ l i 126;rw[wX];show _=if fG l i 0=true then(1,i+2) else if fG l i 1=true then(2,i+2) else if fG l i 2=true then(3,i+1) else if fG l i 3=true then(4,i+1) else if fG l i 5=true then(5,i+1) else if fG l i 6=true then(6,i+1) else if fG l i 4=true then(0,i+1) else(-1,i);rw[g4,g5,g6]
 by_cases e:l[i]?=some 61
 ·simp[e]
 ·simp[e]
def ZQ:Array Value:=#[.string ⟨#[61]⟩,.string ⟨#[62,61]⟩,.string ⟨#[60,61]⟩,.string ⟨#[62]⟩,.string ⟨#[60]⟩,.string ⟨#[94]⟩,.string ⟨#[126]⟩]
theorem aiv(k:Nat)(h1:1<=k)(h8:k<8):∃(n:Nat) (T:ByteArray),n<7/\k % 7=n/\Int.tmod (k:Int) 7=(n:Int)/\ZQ[n]?=some (.string T)/\T.data.toList=dsT n/\T.size<=2/\∀l i,(∀m,1<=m->m<k->rC l i (m % 7)=false)->rC l i n=true->ai l i=((n:Int),i+T.size):=by
 rcases(by omega:k=1\/k=2\/k=3\/k=4\/k=5\/k=6\/k=7) with rfl|rfl|rfl|rfl|rfl|rfl|rfl
 ·exact⟨_,_,by decide,rfl,rfl,rfl,rfl,by decide,fun l i h p=>by rw[yS,if_pos p];rfl⟩
 ·exact⟨_,_,by decide,rfl,rfl,rfl,rfl,by decide,fun l i h p=>by rw[yS,if_neg (nf (h 1 (by omega) (by omega))),if_pos p];rfl⟩
 ·exact⟨_,_,by decide,rfl,rfl,rfl,rfl,by decide,fun l i h p=>by rw[yS,if_neg (nf (h 1 (by omega) (by omega))),if_neg (nf (h 2 (by omega) (by omega))),if_pos p];rfl⟩
 ·exact⟨_,_,by decide,rfl,rfl,rfl,rfl,by decide,fun l i h p=>by rw[yS,if_neg (nf (h 1 (by omega) (by omega))),if_neg (nf (h 2 (by omega) (by omega))),if_neg (nf (h 3 (by omega) (by omega))),if_pos p];rfl⟩
 ·exact⟨_,_,by decide,rfl,rfl,rfl,rfl,by decide,fun l i h p=>by rw[yS,if_neg (nf (h 1 (by omega) (by omega))),if_neg (nf (h 2 (by omega) (by omega))),if_neg (nf (h 3 (by omega) (by omega))),if_neg (nf (h 4 (by omega) (by omega))),if_pos p];rfl⟩
 ·exact⟨_,_,by decide,rfl,rfl,rfl,rfl,by decide,fun l i h p=>by rw[yS,if_neg (nf (h 1 (by omega) (by omega))),if_neg (nf (h 2 (by omega) (by omega))),if_neg (nf (h 3 (by omega) (by omega))),if_neg (nf (h 4 (by omega) (by omega))),if_neg (nf (h 5 (by omega) (by omega))),if_pos p];rfl⟩
 ·exact⟨_,_,by decide,rfl,rfl,rfl,rfl,by decide,fun l i h p=>by rw[yS,if_neg (nf (h 1 (by omega) (by omega))),if_neg (nf (h 2 (by omega) (by omega))),if_neg (nf (h 3 (by omega) (by omega))),if_neg (nf (h 4 (by omega) (by omega))),if_neg (nf (h 5 (by omega) (by omega))),if_neg (nf (h 6 (by omega) (by omega))),if_pos p];rfl⟩
def DR(D:Nat)(w:World):Prop:=w.heap[D]?=some (.cells ZQ 9 (0,0))
theorem aiw(g b:Nat)(s:ByteArray)(i:Nat)(a:Nat)(w:World)(hi:i<=s.size)(hgb:g≠b)(hg:GR g b w)(h:VS b s i 0 a w)(hs:s.size<2 ^ 60) :
  Calls prog 93 #[.pointer (some ⟨g,0,none⟩)] w fun e w'=>e=.returned (.int .i64 (ai s.data.toList i).1)/\VS b s (ai s.data.toList i).2 0 a w'/\w.grownBy w' (some b):=by
 have CI:Hd (∀(k:Nat) (T:ByteArray) (w:World),T.data.toList=dsT k->T.size<2 ^ 61->GR g b w->VS b s i 0 a w->Calls prog 65 #[.pointer (some ⟨g,0,none⟩),.string T] w fun e w'=>e=.returned (.bool (rC s.data.toList i k))/\∃n,w'=w.drewN n):=fun k T w hT ht h1 h2=>by
  have:=Q7 g b s T i a w hi h1 h2 (by omega) ht;rw[hT]at this;exact this
 obtain⟨l,hl⟩:=zN (s.data.toList);rw[hl]at CI ⊢;obtain⟨sg,j,hsg⟩:∃sg j,ai l i=(sg,j):=⟨_,_,rfl⟩;have lg:=ae hsg;rw[hsg];simp only[];have HG:=ae hg;have HV:=ae h;have HB0:Hd (b<w.heap.size/\g<w.heap.size/\g≠b):=⟨(bJ h),GR.lt hg,hgb⟩;have lM:Hd (i<=s.size/\s.size<2 ^ 60):=⟨hi,hs⟩;clear hl hsg h hg hgb hs hi;go_enter func93,ntmps93;go_wp2_with (fail);obtain⟨D,hD⟩:=zN (w.heap.size);obtain⟨W,hW⟩:=zN (w.alloc (.cells #[.string ⟨#[61]⟩,.string ⟨#[62,61]⟩,.string ⟨#[60,61]⟩,.string ⟨#[62]⟩,.string ⟨#[60]⟩,.string ⟨#[94]⟩,.string ⟨#[126]⟩] 9));have hgW:w.grownBy W none:=by rw[<-hW];exact aH (ax w none) _
 have HD:Hd (DR D W):=by show W.heap[D]?=_;rw[<-hW,<-hD];exact heap_alloc_new w _
 have bg:Hd (b≠D/\g≠D/\D≠b):=by have:=HB0.o;refine⟨?_,?_,?_⟩<;>omega
 replace HG:=ae (HG.o.grow hgW);replace HV:Hd (VS b s i 0 a W):=by show W.heap[b]?=_;rw[hgW.block b HB0.o.1 (by simp)];exact HV.o
 have HW:Hd (w.grownBy W (some b)):=iy hgW _
 try rw[hW]
 try rw[hD]
 clear hgW hW hD;go_loopw [4] (fun vk wr=>∃k:Nat,vk=.int .i64 k/\1<=k/\k<=8/\(∀m,1<=m->m<k->rC l i (m % 7)=false)/\VS b s i 0 a wr/\GR g b wr/\DR D wr/\w.grownBy wr (some b)) (fun vk _=>8-(intOf vk).toNat)
 case atStart=>exact⟨1,rfl,by omega,by omega,fun m h1 h2=>by omega,HV.o,HG.o,HD.o,HW.o⟩
 case round=>
  obtain⟨k,rfl,hk1,hk8,hno,hv,hgr,hdr,hgw⟩:=hrel;clear HV HG HD HW;have HV:=ae hv;have HG:=ae hgr;have HD:=ae hdr;have HW:=ae hgw;have jI:=ae hno;clear hv hgr hdr hgw hno
  by_cases h8:k=8
  ·subst h8;have Ri:Hd (ai l i=(-1,i)):=by
    show _=_;rw[yS,if_neg (nf (jI.o 1 (by omega) (by omega))),if_neg (nf (jI.o 2 (by omega) (by omega))),if_neg (nf (jI.o 3 (by omega) (by omega))),if_neg (nf (jI.o 4 (by omega) (by omega))),if_neg (nf (jI.o 5 (by omega) (by omega))),if_neg (nf (jI.o 6 (by omega) (by omega))),if_neg (nf (jI.o 7 (by omega) (by omega)))]
   obtain⟨rfl,rfl⟩:sg=-1/\j=i:=by have:=lg.o.symm.trans Ri.o;simpa using this
   go_wp2;go_ret;exact⟨rfl,HV.o,HW.o⟩
  ·obtain⟨n,T,hn7,hm1,hm2,hT0,hTs,hsz2,hsi⟩:=aiv k hk1 (by omega);have BL:=ae hm1;have HT:=ae hTs;have Qn:=ae hsi;have HK:=ae (And.intro hk1 (show k<8 by omega));have d0:wr.cell? ⟨D,n,none⟩=some (.string T):=by rw[aj (show _=_ from HD.o)];exact hT0
   have HT0:=ae hT0;have ak7:(k:Int)<8:=by omega
   clear hTs hsi hT0 h8 hm1;obtain⟨q,hp⟩:=zN (rC l i n);have CIk:Hd (∀w,GR g b w->VS b s i 0 a w->Calls prog 65 #[.pointer (some ⟨g,0,none⟩),.string T] w fun e w'=>e=.returned (.bool q)/\∃n,w'=w.drewN n):=fun w h1 h2=>by have:=CI.o n T w HT.o (by omega) h1 h2;rw[hp]at this;exact this
   have HP:=ae hp;clear hp;go_wp2_with (go_at_call 65;refine(CIk.o _ HG.o HV.o).mono ?_);rintro e u1 ⟨rfl,nn,hn⟩;replace HV:Hd (VS b s i 0 a u1):=by show VS _ _ _ _ _ u1;rw[hn];exact HV.o.drew _
   replace HG:Hd (GR g b u1):=by show GR g b u1;rw[hn];exact HG.o
   replace HD:Hd (DR D u1):=by show DR D u1;rw[hn];exact HD.o
   replace HW:Hd (w.grownBy u1 (some b)):=by show w.grownBy u1 (some b);rw[hn];exact az HW.o _
   clear hn d0
   cases q with
   |true=>
    have Ri:=ae (Qn.o l i jI.o HP.o);obtain⟨rfl,rfl⟩:sg=n/\j=i+T.size:=by have:=lg.o.symm.trans Ri.o;simpa using this
    have e0:u1.cell? ⟨g,0,none⟩=some (.pointer (some ⟨b,0,none⟩)):=HG.o;have e1:=HV.o.c1;have ef:=HV.o.f1;have e2:u1.cell? ⟨D,n,none⟩=some (.string T):=by rw[aj (show _=_ from HD.o)];exact HT0.o
    have hwr:IntKind.i64.wrap ((i:Int)+(T.size:Int))=(i:Int)+(T.size:Int):=by rw[IntKind.wrap_i64];have:=lM.o;omega
    go_wp2_with (fail)
    go_region
    have yj:Hd (VS b s (i+T.size) 0 a (u1.setCell ⟨b,1,none⟩ (.int .i64 ((i:Int)+(T.size:Int)))).drew):=by show VS b s (i+T.size) 0 a (u1.setCell ⟨b,1,none⟩ (.int .i64 ((i:Int)+(T.size:Int))));rw[show((i:Int)+(T.size:Int))=((i+T.size:Nat):Int) by omega];exact HV.o.set1 _
    have qQ:Hd (w.grownBy (u1.setCell ⟨b,1,none⟩ (.int .i64 ((i:Int)+(T.size:Int)))).drew (some b)):=NI (aT HW.o _ _);clear e0 e1 e2 ef hwr;go_wp2;go_ret;exact⟨rfl,yj.o,qQ.o⟩
   |false=>
    go_wp2;go_roundw
    case rel=>exact⟨k+1,by go_num,by omega,by have:=HK.o;omega,fun m h1 h2=>by rcases Nat.lt_succ_iff_lt_or_eq.1 h2 with h|h;exact jI.o m h1 h;rw[h,BL.o];exact HP.o,HV.o,HG.o,HD.o,HW.o⟩
    case measure=>have:=HK.o;simp[intOf];omega
def kq(l:List UInt8)(E:Int)(i:Nat):Nat:=if E=0 then ag l i else i
def yT(l:List UInt8)(E:Int)(i:Nat):Int:=if E=0 then(ah l i).1 else E
theorem aix(g b:Nat)(s:ByteArray)(i:Nat)(E:Int)(a:Nat)(w:World)(hi:E=0->i<=s.size)(hg:GR g b w)(h:VS b s i E a w)(hs:s.size<2 ^ 61) :
  Calls prog 92 #[.pointer (some ⟨g,0,none⟩)] w fun e w'=>e=.returned (.bool (!decide (E=0) || dL s.data.toList i))/\∃n,w'=w.drewN n:=by
 by_cases hE:E=0
 ·subst hE;simpa using ZJ g b s i a w (hi rfl) hg h hs
 ·simpa [hE] using ZI g b s i E a w hE hg h
theorem aiy(g b:Nat)(s:ByteArray)(i:Nat)(E:Int)(a:Nat)(w:World)(hi:E=0->i<=s.size)(hgb:g≠b)(hg:GR g b w)(h:VS b s i E a w)(hs:s.size<2 ^ 61) :
  Calls prog 63 #[.pointer (some ⟨g,0,none⟩)] w fun e w'=>e=.returned (.bool (decide (i<kq s.data.toList E i)))/\VS b s (kq s.data.toList E i) E a w'/\w.grownBy w' (some b):=by
 by_cases hE:E=0
 ·subst hE;unfold kq;rw[if_pos rfl];exact Q8 g b s i a w (hi rfl) hgb hg h hs
 ·unfold kq;rw[if_neg hE,decide_eq_false (Nat.lt_irrefl _)];refine(ain g b s i E a w hE hg h).mono ?_;rintro e w' ⟨rfl,n,rfl⟩;exact⟨rfl,h.drew n,az (ax _ _) n⟩
def aiz(b:Nat)(s:ByteArray)(E:Int)(i a:Nat)(w:World)(e:Ending)(w':World):Prop :=
 ∃(m y1 y2 y3:Int) (P Q:ByteArray) (j c:Nat),e=.returned (.agg #[.int .i64 m,.int .i64 y1,.int .i64 y2,.int .i64 y3,.string P,.string Q])/\VS b s j (yT s.data.toList E i) c w'/\w.grownBy w' (some b) ∧
  (E=0->((ah s.data.toList i).1=0->j=(ah s.data.toList i).2.1/\m=((ah s.data.toList i).2.2.n:Int)/\y1=(ah s.data.toList i).2.2.a/\y2=(ah s.data.toList i).2.2.b/\y3=(ah s.data.toList i).2.2.c/\P=⟨(ah s.data.toList i).2.2.pre.toArray⟩)/\(¬(ah s.data.toList i).1=0->c=(ah s.data.toList i).2.1))/\(¬E=0->c=a)
theorem aiA(g b:Nat)(s:ByteArray)(i:Nat)(E:Int)(a:Nat)(w:World)(hi:i<=s.size)(hgb:g≠b)(hg:GR g b w)(h:VS b s i E a w)(hs:s.size<2 ^ 61) :
  Calls prog 94 #[.pointer (some ⟨g,0,none⟩)] w (aiz b s E i a w):=by
 by_cases hE:E=0
 ·subst hE;refine(ZP g b s i a w hi hgb hg h hs).mono ?_;rintro e w' ⟨m,y1,y2,y3,P,Q,j,c,rfl,hv,hgr,h1,h2⟩;refine⟨m,y1,y2,y3,P,Q,j,c,rfl,by unfold yT;rw[if_pos rfl];exact hv,hgr,fun _=>⟨h1,h2⟩,fun h=>absurd rfl h⟩
 ·refine(aiu g b s i E a w hE hi hgb hg h hs).mono ?_;rintro e w' ⟨m,y1,y2,y3,P,Q,j,rfl,hv,hgr,-⟩;exact⟨m,y1,y2,y3,P,Q,j,a,rfl,by unfold yT;rw[if_neg hE];exact hv,hgr,fun h=>absurd h hE,fun _=>rfl⟩
end Go.Proofs.YtbcfhgpfgdbjgaaGreatDoor
