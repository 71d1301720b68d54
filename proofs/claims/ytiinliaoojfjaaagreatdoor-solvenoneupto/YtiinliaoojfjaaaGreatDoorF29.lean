import Derived.Test.YtiinliaoojfjaaaGreatDoorF20
import Derived.Test.YtiinliaoojfjaaaGreatDoorF22
import Derived.Test.YtiinliaoojfjaaaGreatDoorF19
set_option linter.all false
set_option maxRecDepth 100000
set_option maxHeartbeats 0
open Go.Proofs.Tryz
namespace Go.Proofs.YtiinliaoojfjaaaGreatDoor
open Go.RowKit
theorem PB.f{A:Nat}{a b c:Int}{P:ByteArray}{n:Int}{w:World}(h:PB A a b c P n w)(o:Nat):w.frozen? ⟨A,o,none⟩=false:=Lib.frozen_of_heap h o
theorem PB.growb{A:Nat}{a b c:Int}{P:ByteArray}{n:Int}{w w':World}{q:Nat}(h:PB A a b c P n w)(hg:w.grownBy w' (some q))(hn:A≠q):PB A a b c P n w':=by
 unfold PB at h ⊢;rw[hg.block A ((aC h)) (by simpa using hn)];exact h
theorem PB.other{A V:Nat}{a b c:Int}{P:ByteArray}{n:Int}{w:World}(h:PB A a b c P n w)(hn:A≠V)(o:Nat)(x:Value):PB A a b c P n (w.setCell ⟨V,o,none⟩ x):=by
 unfold PB at h ⊢;rw[heap_setCell_other w _ A x (by simpa using hn)];exact h
theorem PB.set0{A:Nat}{a b c:Int}{P:ByteArray}{n:Int}{w:World}(h:PB A a b c P n w)(y:Int):PB A y b c P n (w.setCell ⟨A,0,none⟩ (.int .i64 y)):=by
 unfold PB at h ⊢;simp[World.setCell,Array.getElem?_modify,h]
theorem PB.set1{A:Nat}{a b c:Int}{P:ByteArray}{n:Int}{w:World}(h:PB A a b c P n w)(y:Int):PB A a y c P n (w.setCell ⟨A,1,none⟩ (.int .i64 y)):=by
 unfold PB at h ⊢;simp[World.setCell,Array.getElem?_modify,h]
theorem PB.set2{A:Nat}{a b c:Int}{P:ByteArray}{n:Int}{w:World}(h:PB A a b c P n w)(y:Int):PB A a b y P n (w.setCell ⟨A,2,none⟩ (.int .i64 y)):=by
 unfold PB at h ⊢;simp[World.setCell,Array.getElem?_modify,h]
theorem PB.set3{A:Nat}{a b c:Int}{P:ByteArray}{n:Int}{w:World}(h:PB A a b c P n w)(y:ByteArray):PB A a b c y n (w.setCell ⟨A,3,none⟩ (.string y)):=by
 unfold PB at h ⊢;simp[World.setCell,Array.getElem?_modify,h]
theorem PB.set5{A:Nat}{a b c:Int}{P:ByteArray}{n:Int}{w:World}(h:PB A a b c P n w)(y:Int):PB A a b c P y (w.setCell ⟨A,5,none⟩ (.int .i64 y)):=by
 unfold PB at h ⊢;simp[World.setCell,Array.getElem?_modify,h]
def BZ(w:World)(A:Nat)(y1 y2 y3:Int)(x4:ByteArray)(n:Int):World:=(((((w.setCell ⟨A,0,none⟩ (.int .i64 y1)).setCell ⟨A,1,none⟩ (.int .i64 y2)).setCell ⟨A,2,none⟩ (.int .i64 y3)).setCell ⟨A,3,none⟩ (.string x4)).setCell ⟨A,4,none⟩ (.string ⟨#[]⟩)).setCell ⟨A,5,none⟩ (.int .i64 n)
theorem aeR{w:World}{A:Nat}{z1 z2 z3:Int}{z4:ByteArray}{m:Int}(h:PB A z1 z2 z3 z4 m w)(y1 y2 y3:Int)(x4:ByteArray)(n:Int):PB A y1 y2 y3 x4 n (BZ w A y1 y2 y3 x4 n):=by
 unfold PB at h ⊢;simp[BZ,World.setCell,Array.getElem?_modify,h]
theorem aeS{b A:Nat}{s:ByteArray}{j:Nat}{w:World}(h:RS b s j w)(hn:b≠A)(y1 y2 y3:Int)(x4:ByteArray)(n:Int):RS b s j (BZ w A y1 y2 y3 x4 n):=(((((h.other hn _ _).other hn _ _).other hn _ _).other hn _ _).other hn _ _).other hn _ _
theorem aeT{b A:Nat}{w W:World}(h:w.grownBy W (some b))(hA:w.heap.size<=A)(y1 y2 y3:Int)(x4:ByteArray)(n:Int):w.grownBy (BZ W A y1 y2 y3 x4 n) (some b):=bJ (bJ (bJ (bJ (bJ (bJ h hA _ _) hA _ _) hA _ _) hA _ _) hA _ _) hA _ _
def yj(x1 x2 x3:Int)(P:ByteArray)(n:Int):Value:=.agg #[.int .i64 x1,.int .i64 x2,.int .i64 x3,.string P,.string ⟨#[]⟩,.int .i64 n]
def Vu(b:Nat)(s:ByteArray)(R:Int × Nat × Pa)(w:World)(e:Ending)(w':World):Prop :=
 ∃(x1 x2 x3:Int) (P:ByteArray) (n:Int),e=.returned (.tuple #[.agg #[.int .i64 x1,.int .i64 x2,.int .i64 x3,.string P,.string ⟨#[]⟩,.int .i64 n],.int .i64 R.1])/\RS b s R.2.1 w'/\w.grownBy w' (some b)/\(R.1=0->yj x1 x2 x3 P n=kW R.2.2)
theorem Vw(b:Nat)(s:ByteArray)(i:Nat)(w:World)(hi:i<=s.size)(h:RS b s i w)(hs:s.size<=281474976710656) :
  Calls prog 192 #[.pointer (some ⟨b,0,none⟩)] w (Vu b s (au s.data.toList i) w):=by
 obtain⟨l,hl⟩:∃l,l=s.data.toList:=⟨_,rfl⟩;have hll:l.length=s.size:=by rw[hl];simp
 have bM:=ae hll;obtain⟨R,hR⟩:=zN (au l i);rw[<-hl,hR];have HR:Hd (R=if dW l i=true then(0,i+1,pa0) else if(rdNum l i).1=0 then kE l (rdNum l i).2.2 (rdNum l i).2.1 else((rdNum l i).1,(rdNum l i).2.2,pa0)):=hR.symm;have CN:Hd (∀i w,i<=s.size->RS b s i w->Calls prog 151 #[.pointer (some ⟨b,0,none⟩)] w fun e w'=>e=.returned (.tuple #[.int .i64 (rdNum l i).2.1,.int .i64 (rdNum l i).1])/\RS b s (rdNum l i).2.2 w'/\w.grownBy w' (some b)):=fun i w hi h=>by rw[hl];exact RJ b s i w hi h (by omega)
 have TY:=ae (fun i w (hc:l[i]?=some 46) (h:RS b s i w)=>ug b s i 46 w (by rw[<-hl];exact hc) h (by omega));have TN:Hd (∀i w,i<=s.size->¬l[i]?=some 46->RS b s i w->Calls prog 148 #[.pointer (some ⟨b,0,none⟩),.string ⟨#[46]⟩] w fun e w'=>e=.returned (.bool false)/\RS b s i w'/\w.grownBy w' (some b)):=fun i w hi hc h=>pX b s i 46 w hi (by rw[<-hl];exact hc) h (by omega)
 have CW:Hd (∀i w,i<=s.size->RS b s i w->Calls prog 217 #[.pointer (some ⟨b,0,none⟩)] w fun e w'=>e=.returned (.bool (dW l i))/\RS b s (if dW l i=true then i+1 else i) w'/\w.grownBy w' (some b)):=fun i w hi h=>by rw[hl];exact adM b s i w hi h (by omega)
 have CT:Hd (∀i w,i<=s.size->RS b s i w->Calls prog 131 #[.pointer (some ⟨b,0,none⟩)] w fun e w'=>e=.returned (.tuple #[.string ⟨(aN l i).2.2.1.toArray⟩,.string ⟨(aN l i).2.2.2.toArray⟩,.int .i64 (aN l i).1])/\RS b s (aN l i).2.1 w'/\w.grownBy w' (some b)):=fun i w hi h=>by rw[hl];exact Tf b s i w hi h hs
 have CL:=ae AP;have oP:Hd (∀i,i<=s.size->(rdNum l i).2.2<=s.size):=fun i hi=>by have:=Tc l i (by rw[hll];exact hi);rw[hll]at this;exact this
 have sO:Hd (∀i,l[i]?=some 46->i+1<=s.size):=fun i hc=>by have:=kU hc;rw[hll]at this;exact this
 have HI:=ae h;have mV:=ae hi;have uD:Hd (b<w.heap.size):=by obtain⟨t,h⟩:=h;exact(aC h)
 clear hl hll hR h hs hi;go_enter func192,ntmps192;go_wp2_with (go_at_call 168;refine(CL.o _).mono ?_);rintro e w1 ⟨rfl,hg⟩;obtain⟨A,hA⟩:=zN (w.heap.size);have vX:Hd (PB A 0 0 0 ⟨#[]⟩ 0 w1):=by
  refine PB.grow ?_ hg;unfold PB;rw[<-hA];exact heap_alloc_new w _
 have HG:=ae (ag (ak (ai w none) _) hg);have HA:Hd (w.heap.size<=A/\b<A/\A<w1.heap.size):=⟨Nat.le_of_eq hA,by rw[<-hA];exact uD.o,(aC vX.o)⟩
 try rw[hA]
 clear hA hg;obtain⟨C,hC⟩:=zN (w1.heap.size);go_wp2_with (go_at_call 216;refine(xE _ _ (by simp;omega)).mono ?_);rintro e w2 ⟨rfl,hg⟩;have aJ:Hd (PB C 0 0 0 ⟨#[48]⟩ 0 w2):=by
  refine PB.grow ?_ hg;unfold PB;rw[<-hC];exact heap_alloc_new w1 _
 replace vX:=ae ((vX.o.grow (ak (ai w1 none) _)).grow hg);replace HG:=ae (ag HG.o (ag (ak (ai w1 none) _) hg));replace HA:Hd (w.heap.size<=A/\b<A/\A<C):=⟨HA.o.1,HA.o.2.1,by rw[<-hC];exact HA.o.2.2⟩;replace HI:=ae (HI.o.grow HG.o)
 try rw[hC]
 clear hC hg;have ay:Hd (b≠C/\b≠A/\C≠A/\A≠C/\C≠b/\A≠b):=by have:=HA.o;refine⟨?_,?_,?_,?_,?_,?_⟩<;>omega
 have sQ:Hd (w.heap.size<=C/\w.heap.size<=A):=by have:=HA.o;exact⟨by omega,this.1⟩
 have END:Hd (∀(W:World) (j:Nat) (y1 y2 y3:Int) (P:ByteArray) (n E:Int),RS b s j W->PB A 0 0 0 ⟨#[]⟩ 0 W->w.grownBy W (some b)->E=R.1->j=R.2.1->(E=0->yj y1 y2 y3 P n=kW R.2.2)->PB A y1 y2 y3 P n (BZ W A y1 y2 y3 P n)/\Vu b s R w (.returned (.tuple #[.agg #[.int .i64 y1,.int .i64 y2,.int .i64 y3,.string P,.string ⟨#[]⟩,.int .i64 n],.int .i64 E])) (BZ W A y1 y2 y3 P n)):=by
  intro W j y1 y2 y3 P n E h1 h2 h3 h4 h5 h6;subst h4 h5;exact⟨aeR h2 _ _ _ _ _,y1,y2,y3,P,n,rfl,aeS h1 ay.o.2.1 _ _ _ _ _,aeT h3 sQ.o.2 _ _ _ _ _,h6⟩
 go_wp2;go_loopw [13] (fun vi wr=>∃(k j:Nat) (x1 x2 x3 n:Int),vi=.int .i64 k/\j<=s.size/\RS b s j wr/\PB C x1 x2 x3 ⟨#[48]⟩ n wr/\PB A 0 0 0 ⟨#[]⟩ 0 wr/\w.grownBy wr (some b)/\((k=0/\j=i/\x1=0/\x2=0/\x3=0/\n=0)\/(k=1/\R=kE l j x1/\x2=0/\x3=0/\n=1)\/(k=2/\R=kD l j x1 x2/\x3=0/\n=2)\/(k=3/\R=pa3 l j x1 x2 x3/\n=3))) (fun vi _=>3-(intOf vi).toNat)
 case atStart=>exact⟨0,i,0,0,0,0,rfl,mV.o,HI.o,aJ.o,vX.o,dA HG.o _,Or.inl ⟨rfl,rfl,rfl,rfl,rfl,rfl⟩⟩
 case round =>
  obtain⟨k,j,x1,x2,x3,n,rfl,hj,hrs,hpc,hpa,hg,hcase⟩:=hrel;clear HI aJ vX HG;have HJ:=ae hj;have aA:=ae hrs;have aJ:=ae hpc;have aG:=ae hpa;have HG:=ae hg;clear hj hrs hpc hpa hg
  rcases hcase with⟨rfl,rfl,rfl,rfl,rfl,rfl⟩|⟨rfl,hrk,rfl,rfl,rfl⟩|⟨rfl,hrk,rfl,rfl⟩|⟨rfl,hrk,rfl⟩
  ·have ix:=xG C wr;have iG:=ae HJ.o;have HRk:=ae HR.o;clear HR
   cases hw:dW l j with
   | true =>
    have HZ:Hd (R=(0,j+1,⟨0,0,0,0,[]⟩)):=by show R=_;rw[HRk.o,if_pos hw];rfl
    have jg:Hd (∀w,RS b s (j) w->Calls prog 217 #[.pointer (some ⟨b,0,none⟩)] w fun e w'=>e=.returned (.bool true)/\RS b s (j+1) w'/\w.grownBy w' (some b)):=fun w h=>by have:=CW.o (j) w iG.o h;rw[hw]at this;exact this
    clear hw;go_wp2_with (go_at_call 217;refine(jg.o _ aA.o).mono ?_);rintro e u1 ⟨rfl,hr,hg⟩;replace aA:=ae hr;replace aJ:=ae (aJ.o.growb hg ay.o.2.2.2.2.1);replace aG:=ae (aG.o.growb hg ay.o.2.2.2.2.2);replace HG:=ae (ag HG.o hg);clear hr hg;obtain⟨a0,a1,a2,a3,a4,a5⟩:=aG.o.cells;have af:=aG.o.f;obtain⟨c0,c1,c2,c3,c4,c5⟩:=aJ.o.cells;have cf:=aJ.o.f;obtain⟨n1,n2,n3,n4,n5,n6⟩:=ay.o;go_wp2;obtain⟨hrow,hpost⟩:=END.o u1 (j+1) 0 0 0 ⟨#[48]⟩ 0 0 aA.o aG.o HG.o (by rw[HZ.o]) (by rw[HZ.o]) (fun _=>by rw[HZ.o];rfl);exact bodyPost_ret (oK (p:=2) (u:=3) rfl _ _ A _ _ (0,0) _ rfl hrow underlying247 rfl (by kernel_rfl)) rfl hpost
   | false =>
    have HRn:Hd (R=if(rdNum l (j)).1=0 then kE l (rdNum l (j)).2.2 (rdNum l (j)).2.1 else((rdNum l (j)).1,(rdNum l (j)).2.2,pa0)):=by show R=_;rw[HRk.o,if_neg (by rw[hw];decide)]
    have jg:Hd (∀w,RS b s (j) w->Calls prog 217 #[.pointer (some ⟨b,0,none⟩)] w fun e w'=>e=.returned (.bool false)/\RS b s (j) w'/\w.grownBy w' (some b)):=fun w h=>by have:=CW.o (j) w iG.o h;rw[hw]at this;exact this
    have lQ:=ae (fun w (h:RS b s (j) w)=>CN.o (j) w iG.o h);have lS:=ae (oP.o (j) iG.o);obtain⟨E,hE⟩:=zN ((rdNum l (j)).1);obtain⟨V,hV⟩:=zN ((rdNum l (j)).2.1);obtain⟨Q,hQ⟩:=zN ((rdNum l (j)).2.2);rw[hE,hV,hQ]at lQ HRn;rw[hQ]at lS;clear hE hV hQ hw;go_wp2_with (go_at_call 217;refine(jg.o _ aA.o).mono ?_);rintro e u1 ⟨rfl,hr,hg⟩;replace aA:=ae hr;replace aJ:=ae (aJ.o.growb hg ay.o.2.2.2.2.1);replace aG:=ae (aG.o.growb hg ay.o.2.2.2.2.2);replace HG:=ae (ag HG.o hg);clear hr hg;go_wp2_with (go_at_call 151;refine(lQ.o _ aA.o).mono ?_);rintro e u2 ⟨rfl,hr,hg⟩;replace aA:=ae hr;replace aJ:=ae (aJ.o.growb hg ay.o.2.2.2.2.1);replace aG:=ae (aG.o.growb hg ay.o.2.2.2.2.2);replace HG:=ae (ag HG.o hg);clear hr hg
    cases hz:(E == 0) with
    | false =>
     have HZ:Hd (R=(E,Q,pa0)):=by show R=_;rw[HRn.o,if_neg (by simpa using hz)]
     have jI:Hd (E≠0):=by show E≠0;simpa using hz
     obtain⟨a0,a1,a2,a3,a4,a5⟩:=aG.o.cells;have af:=aG.o.f;obtain⟨c0,c1,c2,c3,c4,c5⟩:=aJ.o.cells;have cf:=aJ.o.f;obtain⟨n1,n2,n3,n4,n5,n6⟩:=ay.o;go_wp2;obtain⟨hrow,hpost⟩:=END.o (u2.setCell ⟨C,0,none⟩ (.int .i64 V)) Q 0 0 0 ⟨#[]⟩ 0 E (aA.o.other ay.o.1 _ _) (aG.o.other ay.o.2.2.2.1 _ _) (bJ HG.o sQ.o.1 _ _) (by rw[HZ.o]) (by rw[HZ.o]) (fun h=>absurd h jI.o);exact bodyPost_ret (oK (p:=2) (u:=3) rfl _ _ A _ _ (0,0) _ rfl hrow underlying247 rfl (by kernel_rfl)) rfl hpost
    | true =>
     have HZ:Hd (R=kE l Q V):=by show R=_;rw[HRn.o,if_pos (by simpa using hz)]
     obtain⟨c0,c1,c2,c3,c4,c5⟩:=aJ.o.cells;have cf:=aJ.o.f;go_wp2;go_roundw
     case rel=>exact⟨1,Q,V,0,0,1,rfl,lS.o,(aA.o.other ay.o.1 _ _).other ay.o.1 _ _,(aJ.o.set0 V).set5 1,(aG.o.other ay.o.2.2.2.1 _ _).other ay.o.2.2.2.1 _ _,bJ (bJ HG.o sQ.o.1 _ _) sQ.o.1 _ _,Or.inr (Or.inl ⟨rfl,HZ.o,rfl,rfl,rfl⟩)⟩
     case measure=>simp[intOf]
  ·have ix:=yR C wr;have qg:=ae hrk;clear hrk HR
   cases hc:decide (l[j]?=some 46) with
   | false =>
    have hc':=of_decide_eq_false hc;have HZ:Hd (R=(0,j,⟨1,x1,0,0,[]⟩)):=by show R=_;rw[qg.o];unfold kE;rw[if_neg hc']
    have zC:=ae (fun w (h:RS b s j w)=>TN.o j w HJ.o hc' h);clear hc hc';go_wp2_with (go_at_call 148;refine(zC.o _ aA.o).mono ?_);rintro e u1 ⟨rfl,hr,hg⟩;replace aA:=ae hr;replace aJ:=ae (aJ.o.growb hg ay.o.2.2.2.2.1);replace aG:=ae (aG.o.growb hg ay.o.2.2.2.2.2);replace HG:=ae (ag HG.o hg);clear hr hg;obtain⟨a0,a1,a2,a3,a4,a5⟩:=aG.o.cells;have af:=aG.o.f;obtain⟨c0,c1,c2,c3,c4,c5⟩:=aJ.o.cells;have cf:=aJ.o.f;obtain⟨n1,n2,n3,n4,n5,n6⟩:=ay.o;go_wp2;obtain⟨hrow,hpost⟩:=END.o u1 j x1 0 0 ⟨#[48]⟩ 1 0 aA.o aG.o HG.o (by rw[HZ.o]) (by rw[HZ.o]) (fun _=>by rw[HZ.o];rfl);exact bodyPost_ret (oK (p:=2) (u:=3) rfl _ _ A _ _ (0,0) _ rfl hrow underlying247 rfl (by kernel_rfl)) rfl hpost
   | true =>
    have hc':=of_decide_eq_true hc;have HRk:Hd (R=if dW l (j+1)=true then(0,j+1+1,⟨1,x1,0,0,[]⟩) else if(rdNum l (j+1)).1=0 then kD l (rdNum l (j+1)).2.2 x1 (rdNum l (j+1)).2.1 else((rdNum l (j+1)).1,(rdNum l (j+1)).2.2,pa0)):=by show R=_;rw[qg.o];unfold kE;rw[if_pos hc']
    have zC:=ae (fun w (h:RS b s j w)=>TY.o j w hc' h);have iG:=ae (sO.o j hc');clear hc hc';go_wp2_with (go_at_call 148;refine(zC.o _ aA.o).mono ?_);rintro e u0 ⟨rfl,hr,hg⟩;replace aA:=ae hr;replace aJ:=ae (aJ.o.growb hg ay.o.2.2.2.2.1);replace aG:=ae (aG.o.growb hg ay.o.2.2.2.2.2);replace HG:=ae (ag HG.o hg);clear hr hg
    cases hw:dW l (j+1) with
    | true =>
     have HZ:Hd (R=(0,(j+1)+1,⟨1,x1,0,0,[]⟩)):=by show R=_;rw[HRk.o,if_pos hw]
     have jg:Hd (∀w,RS b s ((j+1)) w->Calls prog 217 #[.pointer (some ⟨b,0,none⟩)] w fun e w'=>e=.returned (.bool true)/\RS b s ((j+1)+1) w'/\w.grownBy w' (some b)):=fun w h=>by have:=CW.o ((j+1)) w iG.o h;rw[hw]at this;exact this
     clear hw;go_wp2_with (go_at_call 217;refine(jg.o _ aA.o).mono ?_);rintro e u1 ⟨rfl,hr,hg⟩;replace aA:=ae hr;replace aJ:=ae (aJ.o.growb hg ay.o.2.2.2.2.1);replace aG:=ae (aG.o.growb hg ay.o.2.2.2.2.2);replace HG:=ae (ag HG.o hg);clear hr hg;obtain⟨a0,a1,a2,a3,a4,a5⟩:=aG.o.cells;have af:=aG.o.f;obtain⟨c0,c1,c2,c3,c4,c5⟩:=aJ.o.cells;have cf:=aJ.o.f;obtain⟨n1,n2,n3,n4,n5,n6⟩:=ay.o;go_wp2;obtain⟨hrow,hpost⟩:=END.o u1 ((j+1)+1) x1 0 0 ⟨#[48]⟩ 1 0 aA.o aG.o HG.o (by rw[HZ.o]) (by rw[HZ.o]) (fun _=>by rw[HZ.o];rfl);exact bodyPost_ret (oK (p:=2) (u:=3) rfl _ _ A _ _ (0,0) _ rfl hrow underlying247 rfl (by kernel_rfl)) rfl hpost
    | false =>
     have HRn:Hd (R=if(rdNum l ((j+1))).1=0 then kD l (rdNum l ((j+1))).2.2 x1 (rdNum l ((j+1))).2.1 else((rdNum l ((j+1))).1,(rdNum l ((j+1))).2.2,pa0)):=by show R=_;rw[HRk.o,if_neg (by rw[hw];decide)]
     have jg:Hd (∀w,RS b s ((j+1)) w->Calls prog 217 #[.pointer (some ⟨b,0,none⟩)] w fun e w'=>e=.returned (.bool false)/\RS b s ((j+1)) w'/\w.grownBy w' (some b)):=fun w h=>by have:=CW.o ((j+1)) w iG.o h;rw[hw]at this;exact this
     have lQ:=ae (fun w (h:RS b s ((j+1)) w)=>CN.o ((j+1)) w iG.o h);have lS:=ae (oP.o ((j+1)) iG.o);obtain⟨E,hE⟩:=zN ((rdNum l ((j+1))).1);obtain⟨V,hV⟩:=zN ((rdNum l ((j+1))).2.1);obtain⟨Q,hQ⟩:=zN ((rdNum l ((j+1))).2.2);rw[hE,hV,hQ]at lQ HRn;rw[hQ]at lS;clear hE hV hQ hw;go_wp2_with (go_at_call 217;refine(jg.o _ aA.o).mono ?_);rintro e u1 ⟨rfl,hr,hg⟩;replace aA:=ae hr;replace aJ:=ae (aJ.o.growb hg ay.o.2.2.2.2.1);replace aG:=ae (aG.o.growb hg ay.o.2.2.2.2.2);replace HG:=ae (ag HG.o hg);clear hr hg;go_wp2_with (go_at_call 151;refine(lQ.o _ aA.o).mono ?_);rintro e u2 ⟨rfl,hr,hg⟩;replace aA:=ae hr;replace aJ:=ae (aJ.o.growb hg ay.o.2.2.2.2.1);replace aG:=ae (aG.o.growb hg ay.o.2.2.2.2.2);replace HG:=ae (ag HG.o hg);clear hr hg
     cases hz:(E == 0) with
     | false =>
      have HZ:Hd (R=(E,Q,pa0)):=by show R=_;rw[HRn.o,if_neg (by simpa using hz)]
      have jI:Hd (E≠0):=by show E≠0;simpa using hz
      obtain⟨a0,a1,a2,a3,a4,a5⟩:=aG.o.cells;have af:=aG.o.f;obtain⟨c0,c1,c2,c3,c4,c5⟩:=aJ.o.cells;have cf:=aJ.o.f;obtain⟨n1,n2,n3,n4,n5,n6⟩:=ay.o;go_wp2;obtain⟨hrow,hpost⟩:=END.o (u2.setCell ⟨C,1,none⟩ (.int .i64 V)) Q 0 0 0 ⟨#[]⟩ 0 E (aA.o.other ay.o.1 _ _) (aG.o.other ay.o.2.2.2.1 _ _) (bJ HG.o sQ.o.1 _ _) (by rw[HZ.o]) (by rw[HZ.o]) (fun h=>absurd h jI.o);exact bodyPost_ret (oK (p:=2) (u:=3) rfl _ _ A _ _ (0,0) _ rfl hrow underlying247 rfl (by kernel_rfl)) rfl hpost
     | true =>
      have HZ:Hd (R=kD l Q x1 V):=by show R=_;rw[HRn.o,if_pos (by simpa using hz)]
      obtain⟨c0,c1,c2,c3,c4,c5⟩:=aJ.o.cells;have cf:=aJ.o.f;go_wp2;go_roundw
      case rel=>exact⟨2,Q,x1,V,0,2,rfl,lS.o,(aA.o.other ay.o.1 _ _).other ay.o.1 _ _,(aJ.o.set1 V).set5 2,(aG.o.other ay.o.2.2.2.1 _ _).other ay.o.2.2.2.1 _ _,bJ (bJ HG.o sQ.o.1 _ _) sQ.o.1 _ _,Or.inr (Or.inr (Or.inl ⟨rfl,HZ.o,rfl,rfl⟩))⟩
      case measure=>simp[intOf]
  ·have ix:=AO C wr;have qg:=ae hrk;clear hrk HR
   cases hc:decide (l[j]?=some 46) with
   | false =>
    have hc':=of_decide_eq_false hc;have HZ:Hd (R=(0,j,⟨2,x1,x2,0,[]⟩)):=by show R=_;rw[qg.o];unfold kD;rw[if_neg hc']
    have zC:=ae (fun w (h:RS b s j w)=>TN.o j w HJ.o hc' h);clear hc hc';go_wp2_with (go_at_call 148;refine(zC.o _ aA.o).mono ?_);rintro e u1 ⟨rfl,hr,hg⟩;replace aA:=ae hr;replace aJ:=ae (aJ.o.growb hg ay.o.2.2.2.2.1);replace aG:=ae (aG.o.growb hg ay.o.2.2.2.2.2);replace HG:=ae (ag HG.o hg);clear hr hg;obtain⟨a0,a1,a2,a3,a4,a5⟩:=aG.o.cells;have af:=aG.o.f;obtain⟨c0,c1,c2,c3,c4,c5⟩:=aJ.o.cells;have cf:=aJ.o.f;obtain⟨n1,n2,n3,n4,n5,n6⟩:=ay.o;go_wp2;obtain⟨hrow,hpost⟩:=END.o u1 j x1 x2 0 ⟨#[48]⟩ 2 0 aA.o aG.o HG.o (by rw[HZ.o]) (by rw[HZ.o]) (fun _=>by rw[HZ.o];rfl);exact bodyPost_ret (oK (p:=2) (u:=3) rfl _ _ A _ _ (0,0) _ rfl hrow underlying247 rfl (by kernel_rfl)) rfl hpost
   | true =>
    have hc':=of_decide_eq_true hc;have HRk:Hd (R=if dW l (j+1)=true then(0,j+1+1,⟨2,x1,x2,0,[]⟩) else if(rdNum l (j+1)).1=0 then pa3 l (rdNum l (j+1)).2.2 x1 x2 (rdNum l (j+1)).2.1 else((rdNum l (j+1)).1,(rdNum l (j+1)).2.2,pa0)):=by show R=_;rw[qg.o];unfold kD;rw[if_pos hc']
    have zC:=ae (fun w (h:RS b s j w)=>TY.o j w hc' h);have iG:=ae (sO.o j hc');clear hc hc';go_wp2_with (go_at_call 148;refine(zC.o _ aA.o).mono ?_);rintro e u0 ⟨rfl,hr,hg⟩;replace aA:=ae hr;replace aJ:=ae (aJ.o.growb hg ay.o.2.2.2.2.1);replace aG:=ae (aG.o.growb hg ay.o.2.2.2.2.2);replace HG:=ae (ag HG.o hg);clear hr hg
    cases hw:dW l (j+1) with
    | true =>
     have HZ:Hd (R=(0,(j+1)+1,⟨2,x1,x2,0,[]⟩)):=by show R=_;rw[HRk.o,if_pos hw]
     have jg:Hd (∀w,RS b s ((j+1)) w->Calls prog 217 #[.pointer (some ⟨b,0,none⟩)] w fun e w'=>e=.returned (.bool true)/\RS b s ((j+1)+1) w'/\w.grownBy w' (some b)):=fun w h=>by have:=CW.o ((j+1)) w iG.o h;rw[hw]at this;exact this
     clear hw;go_wp2_with (go_at_call 217;refine(jg.o _ aA.o).mono ?_);rintro e u1 ⟨rfl,hr,hg⟩;replace aA:=ae hr;replace aJ:=ae (aJ.o.growb hg ay.o.2.2.2.2.1);replace aG:=ae (aG.o.growb hg ay.o.2.2.2.2.2);replace HG:=ae (ag HG.o hg);clear hr hg;obtain⟨a0,a1,a2,a3,a4,a5⟩:=aG.o.cells;have af:=aG.o.f;obtain⟨c0,c1,c2,c3,c4,c5⟩:=aJ.o.cells;have cf:=aJ.o.f;obtain⟨n1,n2,n3,n4,n5,n6⟩:=ay.o;go_wp2;obtain⟨hrow,hpost⟩:=END.o u1 ((j+1)+1) x1 x2 0 ⟨#[48]⟩ 2 0 aA.o aG.o HG.o (by rw[HZ.o]) (by rw[HZ.o]) (fun _=>by rw[HZ.o];rfl);exact bodyPost_ret (oK (p:=2) (u:=3) rfl _ _ A _ _ (0,0) _ rfl hrow underlying247 rfl (by kernel_rfl)) rfl hpost
    | false =>
     have HRn:Hd (R=if(rdNum l ((j+1))).1=0 then pa3 l (rdNum l ((j+1))).2.2 x1 x2 (rdNum l ((j+1))).2.1 else((rdNum l ((j+1))).1,(rdNum l ((j+1))).2.2,pa0)):=by show R=_;rw[HRk.o,if_neg (by rw[hw];decide)]
     have jg:Hd (∀w,RS b s ((j+1)) w->Calls prog 217 #[.pointer (some ⟨b,0,none⟩)] w fun e w'=>e=.returned (.bool false)/\RS b s ((j+1)) w'/\w.grownBy w' (some b)):=fun w h=>by have:=CW.o ((j+1)) w iG.o h;rw[hw]at this;exact this
     have lQ:=ae (fun w (h:RS b s ((j+1)) w)=>CN.o ((j+1)) w iG.o h);have lS:=ae (oP.o ((j+1)) iG.o);obtain⟨E,hE⟩:=zN ((rdNum l ((j+1))).1);obtain⟨V,hV⟩:=zN ((rdNum l ((j+1))).2.1);obtain⟨Q,hQ⟩:=zN ((rdNum l ((j+1))).2.2);rw[hE,hV,hQ]at lQ HRn;rw[hQ]at lS;clear hE hV hQ hw;go_wp2_with (go_at_call 217;refine(jg.o _ aA.o).mono ?_);rintro e u1 ⟨rfl,hr,hg⟩;replace aA:=ae hr;replace aJ:=ae (aJ.o.growb hg ay.o.2.2.2.2.1);replace aG:=ae (aG.o.growb hg ay.o.2.2.2.2.2);replace HG:=ae (ag HG.o hg);clear hr hg;go_wp2_with (go_at_call 151;refine(lQ.o _ aA.o).mono ?_);rintro e u2 ⟨rfl,hr,hg⟩;replace aA:=ae hr;replace aJ:=ae (aJ.o.growb hg ay.o.2.2.2.2.1);replace aG:=ae (aG.o.growb hg ay.o.2.2.2.2.2);replace HG:=ae (ag HG.o hg);clear hr hg
     cases hz:(E == 0) with
     | false =>
      have HZ:Hd (R=(E,Q,pa0)):=by show R=_;rw[HRn.o,if_neg (by simpa using hz)]
      have jI:Hd (E≠0):=by show E≠0;simpa using hz
      obtain⟨a0,a1,a2,a3,a4,a5⟩:=aG.o.cells;have af:=aG.o.f;obtain⟨c0,c1,c2,c3,c4,c5⟩:=aJ.o.cells;have cf:=aJ.o.f;obtain⟨n1,n2,n3,n4,n5,n6⟩:=ay.o;go_wp2;obtain⟨hrow,hpost⟩:=END.o (u2.setCell ⟨C,2,none⟩ (.int .i64 V)) Q 0 0 0 ⟨#[]⟩ 0 E (aA.o.other ay.o.1 _ _) (aG.o.other ay.o.2.2.2.1 _ _) (bJ HG.o sQ.o.1 _ _) (by rw[HZ.o]) (by rw[HZ.o]) (fun h=>absurd h jI.o);exact bodyPost_ret (oK (p:=2) (u:=3) rfl _ _ A _ _ (0,0) _ rfl hrow underlying247 rfl (by kernel_rfl)) rfl hpost
     | true =>
      have HZ:Hd (R=pa3 l Q x1 x2 V):=by show R=_;rw[HRn.o,if_pos (by simpa using hz)]
      obtain⟨c0,c1,c2,c3,c4,c5⟩:=aJ.o.cells;have cf:=aJ.o.f;go_wp2;go_roundw
      case rel=>exact⟨3,Q,x1,x2,V,3,rfl,lS.o,(aA.o.other ay.o.1 _ _).other ay.o.1 _ _,(aJ.o.set2 V).set5 3,(aG.o.other ay.o.2.2.2.1 _ _).other ay.o.2.2.2.1 _ _,bJ (bJ HG.o sQ.o.1 _ _) sQ.o.1 _ _,Or.inr (Or.inr (Or.inr ⟨rfl,HZ.o,rfl⟩))⟩
      case measure=>simp[intOf]
  ·have qg:=ae hrk;clear hrk HR;have zD:=ae (fun w (h:RS b s j w)=>CT.o j w HJ.o h);have Vz:Hd (R=if(aN l j).1=0 then(0,(aN l j).2.1,⟨3,x1,x2,x3,(aN l j).2.2.1⟩) else((aN l j).1,(aN l j).2.1,pa0)):=qg.o;obtain⟨E,Q,P,B,hT⟩:∃E Q P B,aN l j=(E,Q,P,B):=⟨_,_,_,_,rfl⟩;rw[hT]at zD Vz;clear hT;go_wp2_with (go_at_call 131;refine(zD.o _ aA.o).mono ?_);rintro e u1 rfl hr hg;replace aA:=ae hr;replace aJ:=ae (aJ.o.growb hg ay.o.2.2.2.2.1);replace aG:=ae (aG.o.growb hg ay.o.2.2.2.2.2);replace HG:=ae (ag HG.o hg);clear hr hg;obtain⟨a0,a1,a2,a3,a4,a5⟩:=aG.o.cells;have af:=aG.o.f;obtain⟨c0,c1,c2,c3,c4,c5⟩:=aJ.o.cells;have cf:=aJ.o.f;obtain⟨n1,n2,n3,n4,n5,n6⟩:=ay.o;have HZ:Hd (E=R.1/\Q=R.2.1/\(E=0->yj x1 x2 x3 ⟨P.toArray⟩ 3=kW R.2.2)):=by
    have h:=Vz.o
    by_cases h0:E=0
    ·rw[if_pos h0]at h;rw[h];exact⟨h0,rfl,fun _=>rfl⟩
    ·rw[if_neg h0]at h;rw[h];exact⟨rfl,rfl,fun e=>absurd e h0⟩
   go_wp2;obtain⟨hrow,hpost⟩:=END.o (u1.setCell ⟨C,3,none⟩ (.string ⟨P.toArray⟩)) Q x1 x2 x3 ⟨P.toArray⟩ 3 E (aA.o.other ay.o.1 _ _) (aG.o.other ay.o.2.2.2.1 _ _) (bJ HG.o sQ.o.1 _ _) HZ.o.1 HZ.o.2.1 (HZ.o.2.2);exact bodyPost_ret (oK (p:=2) (u:=3) rfl _ _ A _ _ (0,0) _ rfl hrow underlying247 rfl (by kernel_rfl)) rfl hpost
open Go.RowKit
def IQ:Array Value:=#[.string ⟨#[62,61]⟩,.func (.func 207) #[] #[],.string ⟨#[60,61]⟩,.func (.func 208) #[] #[],.string ⟨#[62]⟩,.func (.func 209) #[] #[],.string ⟨#[60]⟩,.func (.func 210) #[] #[],.string ⟨#[61]⟩,.func (.func 211) #[] #[],.string ⟨#[94]⟩,.func (.func 212) #[] #[],.string ⟨#[126]⟩,.func (.func 215) #[] #[],.string ⟨#[]⟩,.func (.func 211) #[] #[]]
theorem aeU(w:World):Calls prog 191 #[] w fun e w'=>e=.returned (.slice (some ⟨w.heap.size,0,none⟩) 8 8)/\w'=w.alloc (.cells IQ 245):=by
 go_enter func191,ntmps191;go_wp2;go_ret;exact⟨rfl,rfl⟩
def Cb(k:Nat):List UInt8:=match k with|0=>[62,61]|1=>[60,61]|2=>[62]|3=>[60]|4=>[61]|5=>[94]|6=>[126]|_=>[]
def fK(l:List UInt8)(i k:Nat):Bool:=Lib.hasPrefix (l.drop i) (Cb k)
theorem IR(l:List UInt8)(i:Nat)(a c:UInt8):Lib.hasPrefix (l.drop i) [a,c]=(decide (l[i]?=some a) && decide (l[i+1]?=some c)):=by
 have e0:l[i]?=(l.drop i)[0]?:=by rw[List.getElem?_drop];rfl
 have e1:l[i+1]?=(l.drop i)[1]?:=by rw[List.getElem?_drop]
 rw[e0,e1]
 cases l.drop i with
 | nil=>rfl
 | cons x r =>
  cases r with
  | nil =>
   show(a == x && false)=_;simp
  | cons y r =>
   show(a == x && (c == y && true))=(decide (some x=some a) && decide (some y=some c));rw[Bool.eq_iff_iff];simp only[Bool.and_eq_true,beq_iff_eq,decide_eq_true_eq,Option.some.injEq,and_true];exact⟨fun h=>⟨h.1.symm,h.2.symm⟩,fun h=>⟨h.1.symm,h.2.symm⟩⟩
theorem wE(l:List UInt8)(i:Nat):az l i=if fK l i 0=true then(1,i+2) else if fK l i 1=true then(2,i+2) else if fK l i 2=true then(3,i+1) else if fK l i 3=true then(4,i+1) else if fK l i 4=true then(0,i+1) else if fK l i 5=true then(5,i+1) else if fK l i 6=true then(6,i+1) else(-1,i):=by
 have g0:fK l i 0=(decide (l[i]?=some 62) && decide (l[i+1]?=some 61)):=IR l i 62 61;have g1:fK l i 1=(decide (l[i]?=some 60) && decide (l[i+1]?=some 61)):=IR l i 60 61;have g2:fK l i 2=decide (l[i]?=some 62):=qO l i 62;have g3:fK l i 3=decide (l[i]?=some 60):=qO l i 60;have g4:fK l i 4=decide (l[i]?=some 61):=qO l i 61;have g5:fK l i 5=decide (l[i]?=some 94):=qO l i 94;have g6:fK l i 6=decide (l[i]?=some 126):=qO l i 126;rw[g0,g1,g2,g3,g4,g5,g6];unfold az
 by_cases a:l[i]?=some 62
 ·by_cases c:l[i+1]?=some 61<;>simp[a,c]
 ·by_cases a2:l[i]?=some 60
  ·by_cases c:l[i+1]?=some 61<;>simp[a2,c]
  ·simp[a,a2]
theorem nf{b:Bool}(h:b=false):¬b=true:=by rw[h];simp
def TB(A:Nat)(T F:Value)(a b c:Int)(P:ByteArray)(n:Int)(w:World):Prop:=w.heap[A]?=some (.cells #[T,F,.int .i64 a,.int .i64 b,.int .i64 c,.string P,.string ⟨#[]⟩,.int .i64 n] 249 (0,0))
theorem TB.cells{A:Nat}{T F:Value}{a b c:Int}{P:ByteArray}{n:Int}{w:World}(h:TB A T F a b c P n w):w.cell? ⟨A,0,none⟩=some T/\w.cell? ⟨A,1,none⟩=some F/\w.cell? ⟨A,2,none⟩=some (.int .i64 a)/\w.cell? ⟨A,3,none⟩=some (.int .i64 b)/\w.cell? ⟨A,4,none⟩=some (.int .i64 c)/\w.cell? ⟨A,5,none⟩=some (.string P)/\w.cell? ⟨A,6,none⟩=some (.string ⟨#[]⟩)/\w.cell? ⟨A,7,none⟩=some (.int .i64 n) :=
 ⟨by rw[ah h];rfl,by rw[ah h];rfl,by rw[ah h];rfl,by rw[ah h];rfl,by rw[ah h];rfl,by rw[ah h];rfl,by rw[ah h];rfl,by rw[ah h];rfl⟩
theorem TB.f{A:Nat}{T F:Value}{a b c:Int}{P:ByteArray}{n:Int}{w:World}(h:TB A T F a b c P n w)(o:Nat):w.frozen? ⟨A,o,none⟩=false:=Lib.frozen_of_heap h o
theorem TB.grow{A:Nat}{T F:Value}{a b c:Int}{P:ByteArray}{n:Int}{w w':World}(h:TB A T F a b c P n w)(hg:w.grownBy w' none):TB A T F a b c P n w':=by
 unfold TB at h ⊢;rw[hg.block A ((aC h)) (by simp)];exact h
theorem TB.growb{A:Nat}{T F:Value}{a b c:Int}{P:ByteArray}{n:Int}{w w':World}{q:Nat}(h:TB A T F a b c P n w)(hg:w.grownBy w' (some q))(hn:A≠q):TB A T F a b c P n w':=by
 unfold TB at h ⊢;rw[hg.block A ((aC h)) (by simpa using hn)];exact h
theorem TB.other{A V:Nat}{T F:Value}{a b c:Int}{P:ByteArray}{n:Int}{w:World}(h:TB A T F a b c P n w)(hn:A≠V)(o:Nat)(x:Value):TB A T F a b c P n (w.setCell ⟨V,o,none⟩ x):=by
 unfold TB at h ⊢;rw[heap_setCell_other w _ A x (by simpa using hn)];exact h
theorem TB.set01{A:Nat}{T F:Value}{a b c:Int}{P:ByteArray}{n:Int}{w:World}(h:TB A T F a b c P n w)(x y:Value):TB A x y a b c P n ((w.setCell ⟨A,0,none⟩ x).setCell ⟨A,1,none⟩ y):=by
 unfold TB at h ⊢;simp[World.setCell,Array.getElem?_modify,h]
def Cc(w:World)(A:Nat)(T F:Value)(y1 y2 y3:Int)(x4:ByteArray)(n:Int):World:=(((((((w.setCell ⟨A,0,none⟩ T).setCell ⟨A,1,none⟩ F).setCell ⟨A,2,none⟩ (.int .i64 y1)).setCell ⟨A,3,none⟩ (.int .i64 y2)).setCell ⟨A,4,none⟩ (.int .i64 y3)).setCell ⟨A,5,none⟩ (.string x4)).setCell ⟨A,6,none⟩ (.string ⟨#[]⟩)).setCell ⟨A,7,none⟩ (.int .i64 n)
def IU(w:World)(A:Nat)(y1 y2 y3:Int)(x4:ByteArray)(n:Int):World:=(((((w.setCell ⟨A,2,none⟩ (.int .i64 y1)).setCell ⟨A,3,none⟩ (.int .i64 y2)).setCell ⟨A,4,none⟩ (.int .i64 y3)).setCell ⟨A,5,none⟩ (.string x4)).setCell ⟨A,6,none⟩ (.string ⟨#[]⟩)).setCell ⟨A,7,none⟩ (.int .i64 n)
theorem VC{w:World}{A:Nat}{T F U G:Value}{z1 z2 z3:Int}{z4:ByteArray}{m:Int}(h:TB A U G z1 z2 z3 z4 m w)(y1 y2 y3:Int)(x4:ByteArray)(n:Int):TB A T F y1 y2 y3 x4 n (Cc w A T F y1 y2 y3 x4 n):=by
 unfold TB at h ⊢;simp[Cc,World.setCell,Array.getElem?_modify,h]
theorem Nu{b A:Nat}{s:ByteArray}{j:Nat}{w:World}(h:RS b s j w)(hn:b≠A)(T F:Value)(y1 y2 y3:Int)(x4:ByteArray)(n:Int):RS b s j (Cc w A T F y1 y2 y3 x4 n):=(((((((h.other hn _ _).other hn _ _).other hn _ _).other hn _ _).other hn _ _).other hn _ _).other hn _ _).other hn _ _
theorem aeV{b A:Nat}{w W:World}(h:w.grownBy W (some b))(hA:w.heap.size<=A)(T F:Value)(y1 y2 y3:Int)(x4:ByteArray)(n:Int):w.grownBy (Cc W A T F y1 y2 y3 x4 n) (some b):=bJ (bJ (bJ (bJ (bJ (bJ (bJ (bJ h hA _ _) hA _ _) hA _ _) hA _ _) hA _ _) hA _ _) hA _ _) hA _ _
theorem aeW{b A:Nat}{s:ByteArray}{j:Nat}{w:World}(h:RS b s j w)(hn:b≠A)(y1 y2 y3:Int)(x4:ByteArray)(n:Int):RS b s j (IU w A y1 y2 y3 x4 n):=(((((h.other hn _ _).other hn _ _).other hn _ _).other hn _ _).other hn _ _).other hn _ _
theorem aeX{b A:Nat}{w W:World}(h:w.grownBy W (some b))(hA:w.heap.size<=A)(y1 y2 y3:Int)(x4:ByteArray)(n:Int):w.grownBy (IU W A y1 y2 y3 x4 n) (some b):=bJ (bJ (bJ (bJ (bJ (bJ h hA _ _) hA _ _) hA _ _) hA _ _) hA _ _) hA _ _
theorem aeY{A V:Nat}{T F:Value}{a b c:Int}{P:ByteArray}{m:Int}{w:World}(h:TB A T F a b c P m w)(hn:A≠V)(y1 y2 y3:Int)(x4:ByteArray)(n:Int):TB A T F a b c P m (IU w V y1 y2 y3 x4 n):=(((((h.other hn _ _).other hn _ _).other hn _ _).other hn _ _).other hn _ _).other hn _ _
def VD(b:Nat)(s:ByteArray)(sg:Int)(R:Int × Nat × Pa)(w:World)(e:Ending)(w':World):Prop :=
 ∃(T:ByteArray) (x1 x2 x3:Int) (P:ByteArray) (n:Int),e=.returned (.tuple #[.agg #[.string T,.func (.func (zA sg)) #[] #[],.int .i64 x1,.int .i64 x2,.int .i64 x3,.string P,.string ⟨#[]⟩,.int .i64 n],.int .i64 R.1])/\T.toList.isEmpty=decide (sg<0)/\RS b s R.2.1 w'/\w.grownBy w' (some b)/\(R.1=0->yj x1 x2 x3 P n=kW R.2.2)
def SR(B:Nat)(w:World):Prop:=w.heap[B]?=some (.cells IQ 245 (0,0))
theorem SR.growb{B:Nat}{w w':World}{q:Nat}(h:SR B w)(hg:w.grownBy w' (some q))(hn:B≠q):SR B w':=by
 unfold SR at h ⊢;rw[hg.block B ((aC h)) (by simpa using hn)];exact h
theorem aeZ(b:Nat)(s:ByteArray)(i k:Nat)(T:ByteArray)(hT:T.data.toList=Cb k)(w:World)(hi:i<=s.size)(h:RS b s i w)(hs:s.size<2 ^ 62) :
  Calls prog 148 #[.pointer (some ⟨b,0,none⟩),.string T] w fun e w'=>e=.returned (.bool (fK s.data.toList i k))/\RS b s (if fK s.data.toList i k=true then i+T.size else i) w'/\w.grownBy w' (some b):=by
 have:=take_any b s T i w hi h hs (by
  have:T.size=(Cb k).length:=by rw[<-hT];simp
  rw[this];unfold Cb;split<;>simp)
 rw[hT]at this;exact this
theorem ae0(k:Nat)(hk:k<8):∃(T:ByteArray) (fn:FuncId),IQ[k*2]?=some (.string T)/\IQ[k*2+1]?=some (.func (.func fn) #[] #[])/\T.data.toList=Cb k/\(∀l i,(∀m,m<k->fK l i m=false)->fK l i k=true->∃sg,az l i=(sg,i+T.size)/\zA sg=fn/\T.toList.isEmpty=decide (sg<0))/\(k=7->∀l i,fK l i k=true):=by
 rcases(by omega:k=0\/k=1\/k=2\/k=3\/k=4\/k=5\/k=6\/k=7) with rfl|rfl|rfl|rfl|rfl|rfl|rfl|rfl
 ·exact⟨_,_,rfl,rfl,rfl,fun l i h p=>⟨_,(by rw[wE,if_pos p];rfl),rfl,(nU (by decide)).trans (by decide)⟩,fun e=>(by cases e)⟩
 ·exact⟨_,_,rfl,rfl,rfl,fun l i h p=>⟨_,(by rw[wE,if_neg (nf (h 0 (by omega))),if_pos p];rfl),rfl,(nU (by decide)).trans (by decide)⟩,fun e=>(by cases e)⟩
 ·exact⟨_,_,rfl,rfl,rfl,fun l i h p=>⟨_,(by rw[wE,if_neg (nf (h 0 (by omega))),if_neg (nf (h 1 (by omega))),if_pos p];rfl),rfl,(nU (by decide)).trans (by decide)⟩,fun e=>(by cases e)⟩
 ·exact⟨_,_,rfl,rfl,rfl,fun l i h p=>⟨_,(by rw[wE,if_neg (nf (h 0 (by omega))),if_neg (nf (h 1 (by omega))),if_neg (nf (h 2 (by omega))),if_pos p];rfl),rfl,(nU (by decide)).trans (by decide)⟩,fun e=>(by cases e)⟩
 ·exact⟨_,_,rfl,rfl,rfl,fun l i h p=>⟨_,(by rw[wE,if_neg (nf (h 0 (by omega))),if_neg (nf (h 1 (by omega))),if_neg (nf (h 2 (by omega))),if_neg (nf (h 3 (by omega))),if_pos p];rfl),rfl,(nU (by decide)).trans (by decide)⟩,fun e=>(by cases e)⟩
 ·exact⟨_,_,rfl,rfl,rfl,fun l i h p=>⟨_,(by rw[wE,if_neg (nf (h 0 (by omega))),if_neg (nf (h 1 (by omega))),if_neg (nf (h 2 (by omega))),if_neg (nf (h 3 (by omega))),if_neg (nf (h 4 (by omega))),if_pos p];rfl),rfl,(nU (by decide)).trans (by decide)⟩,fun e=>(by cases e)⟩
 ·exact⟨_,_,rfl,rfl,rfl,fun l i h p=>⟨_,(by rw[wE,if_neg (nf (h 0 (by omega))),if_neg (nf (h 1 (by omega))),if_neg (nf (h 2 (by omega))),if_neg (nf (h 3 (by omega))),if_neg (nf (h 4 (by omega))),if_neg (nf (h 5 (by omega))),if_pos p];rfl),rfl,(nU (by decide)).trans (by decide)⟩,fun e=>(by cases e)⟩
 ·exact⟨_,_,rfl,rfl,rfl,fun l i h p=>⟨_,(by rw[wE,if_neg (nf (h 0 (by omega))),if_neg (nf (h 1 (by omega))),if_neg (nf (h 2 (by omega))),if_neg (nf (h 3 (by omega))),if_neg (nf (h 4 (by omega))),if_neg (nf (h 5 (by omega))),if_neg (nf (h 6 (by omega)))];rfl),rfl,(vI (by decide)).trans (by decide)⟩,fun _ l i=>rfl⟩
theorem ae1(b:Nat)(s:ByteArray)(i:Nat)(w:World)(hi:i<=s.size)(h:RS b s i w)(hs:s.size<=281474976710656) :
  Calls prog 170 #[.pointer (some ⟨b,0,none⟩)] w (VD b s (az s.data.toList i).1 (au s.data.toList (az s.data.toList i).2) w):=by
 have kQ:Hd ((az s.data.toList i).2<=s.size):=by have:=(Fh s.data.toList i (by simpa using hi)).2;simp at this;exact this
 have CT:=ae (fun(k:Nat) (T:ByteArray) (w:World) (hT:T.data.toList=Cb k) (h:RS b s i w)=>aeZ b s i k T hT w hi h (by omega));have CP:=ae (fun j w (hj:j<=s.size) (h:RS b s j w)=>Vw b s j w hj h hs);obtain⟨l,hl⟩:=zN (s.data.toList);rw[hl]at kQ CT CP ⊢;obtain⟨sg,j,hsg⟩:∃sg j,az l i=(sg,j):=⟨_,_,rfl⟩;rw[hsg]at kQ ⊢;have Nv:=ae (fun w (h:RS b s j w)=>CP.o j w kQ.o h);simp only[];obtain⟨R,hR⟩:=zN (au l j);rw[hR]at Nv ⊢;have lX:=ae hsg;have HI:=ae h;have uD:Hd (b<w.heap.size):=by obtain⟨t,h⟩:=h;exact(aC h)
 have CS:=ae aeU;clear hl hsg hR h hi hs CP kQ;go_enter func170,ntmps170;go_wp2_with (go_at_call 191;refine(CS.o _).mono ?_);rintro e w1 ⟨rfl,hw1⟩;obtain⟨A,hA⟩:=zN (w.heap.size);have HG:Hd (w.grownBy w1 none):=by show w.grownBy w1 none;rw[hw1];exact ak (ak (ak (ai w none) _) _) _
 have oq:Hd (TB A (.string ⟨#[]⟩) .nilFunc 0 0 0 ⟨#[]⟩ 0 w1):=by
  show TB A _ _ 0 0 0 _ 0 w1;unfold TB;rw[hw1,<-hA,Lib.alloc_old _ _ _ (by simp;omega),Lib.alloc_old _ _ _ (by simp)];exact heap_alloc_new w _
 have lY:Hd (TB (A+1) (.string ⟨#[]⟩) .nilFunc 0 0 0 ⟨#[]⟩ 0 w1):=by
  show TB (A+1) _ _ 0 0 0 _ 0 w1;unfold TB;rw[hw1,<-hA,Lib.alloc_old _ _ _ (by simp)];exact nT w _ _
 have lC:Hd (SR (A+2) w1):=by
  show SR (A+2) w1;unfold SR;rw[hw1,<-hA];exact Rq w _ _ _
 have HA:Hd (w.heap.size<=A/\b<A):=⟨Nat.le_of_eq hA,by rw[<-hA];exact uD.o⟩;replace HI:=ae (HI.o.grow HG.o);have hsz:((w.alloc (.cells #[.string ⟨#[]⟩,.nilFunc,.int .i64 0,.int .i64 0,.int .i64 0,.string ⟨#[]⟩,.string ⟨#[]⟩,.int .i64 0] 249)).alloc (.cells #[.string ⟨#[]⟩,.nilFunc,.int .i64 0,.int .i64 0,.int .i64 0,.string ⟨#[]⟩,.string ⟨#[]⟩,.int .i64 0] 249)).heap.size=A+2:=by simp[hA]
 rw[hsz]
 try rw[hA]
 clear hA hw1 hsz;have ay:Hd (b≠A/\b≠A+1/\A+2≠b/\A≠A+1):=by have:=HA.o;refine⟨?_,?_,?_,?_⟩<;>omega
 have oN:Hd (w.heap.size<=A/\w.heap.size<=A+1):=by have:=HA.o;exact⟨this.1,by omega⟩
 go_wp2;go_loopw [10] (fun vi wr=>∃k:Nat,vi=.int .i64 k/\k<8/\(∀m,m<k->fK l i m=false)/\RS b s i wr/\TB A (.string ⟨#[]⟩) .nilFunc 0 0 0 ⟨#[]⟩ 0 wr/\TB (A+1) (.string ⟨#[]⟩) .nilFunc 0 0 0 ⟨#[]⟩ 0 wr/\SR (A+2) wr/\w.grownBy wr (some b)) (fun vi _=>8-(intOf vi).toNat)
 case atStart=>exact⟨0,rfl,by omega,fun m hm=>absurd hm (Nat.not_lt_zero _),HI.o,oq.o,lY.o,lC.o,dA HG.o _⟩
 case round =>
  obtain⟨k,rfl,hk,hno,hrs,hta,htb,GY,hg⟩:=hrel;clear HI oq lY lC HG;have HI:=ae hrs;have oq:=ae hta;have lY:=ae htb;have lC:=ae GY;have HG:=ae hg;have iQ:=ae hno;clear hrs hta htb GY hg hno;obtain⟨T,fn,hT0,hT1,hTs,hsi,VE⟩:=ae0 k hk;have HT:=ae hTs;have Ny:=ae hsi;have HKL:=ae hk;have HK7:Hd (∀l i,fK l i k=false->k+1<8):=fun l i hf=>by
   by_cases e:k=7
   ·have:=VE e l i;rw[hf]at this
    cases this
   ·omega
  clear hTs hsi VE;have s0:wr.cell? ⟨A+2,k*2,none⟩=some (.string T):=by rw[ah (show _=_ from lC.o)];exact hT0
  have s1:wr.cell? ⟨A+2,k*2+1,none⟩=some (.func (.func fn) #[] #[]):=by rw[ah (show _=_ from lC.o)];exact hT1
  obtain⟨D,hD⟩:=zN (wr.heap.size);obtain⟨W0,hW0⟩:=zN (wr.alloc (.cells #[.string ⟨#[]⟩,.nilFunc] 245));have HD0:Hd (W0.heap[D]?=some (.cells #[.string ⟨#[]⟩,.nilFunc] 245 (0,0))):=by show _=_;rw[<-hW0,<-hD];exact heap_alloc_new wr _
  have k0:W0.cell? ⟨D,0,none⟩=some (.string ⟨#[]⟩):=by rw[ah HD0.o];rfl
  have k1:W0.cell? ⟨D,1,none⟩=some .nilFunc:=by rw[ah HD0.o];rfl
  have kf:=Lib.frozen_of_heap HD0.o;have stf:∀(a:Addr) (m:Mode) (w:World),(store a (.func (.func fn) #[] #[]) m).run prog w=stored prog w a (.func (.func fn) #[] #[]) m:=fun a m w=>run_store prog w a _ m rfl
  go_wp2_with (fail);obtain⟨W,hW⟩:=zN ((W0.setCell ⟨D,0,none⟩ (.string T)).setCell ⟨D,1,none⟩ (.func (.func fn) #[] #[]));have hgW:wr.grownBy W none:=by rw[<-hW];exact jR (jR (by rw[<-hW0];exact ak (ai wr none) _) (Nat.le_of_eq hD) _ _) (Nat.le_of_eq hD) _ _
  have HDR:Hd (W.heap[D]?=some (.cells #[.string T,.func (.func fn) #[] #[]] 245 (0,0))):=by show _=_;have h0:=HD0.o;rw[<-hW];simp[World.setCell,Array.getElem?_modify,h0]
  have yP:Hd (D≠b/\A+1<D):=by
   have h1:=(aC lY.o);have h2:=HA.o;rw[hD]at h1;exact⟨by omega,h1⟩
  replace HI:=ae (HI.o.grow hgW);replace oq:=ae (oq.o.grow hgW);replace lY:=ae (lY.o.grow hgW);replace lC:=ae (lC.o.growb (dA hgW (some b)) ay.o.2.2.1);replace HG:=ae (ag HG.o (dA hgW _));have d0:W.cell? ⟨D,0,none⟩=some (.string T):=by rw[ah HDR.o];rfl
  try rw[hW]
  try rw[hD]
  clear hgW hW hD s0 s1 hW0 HD0 k0 k1 kf;have Ce:Hd (∀w,RS b s i w->Calls prog 148 #[.pointer (some ⟨b,0,none⟩),.string T] w fun e w'=>e=.returned (.bool (fK l i k))/\RS b s (if fK l i k=true then i+T.size else i) w'/\w.grownBy w' (some b)):=fun w h=>CT.o k T w HT.o h
  cases hp:fK l i k with
  | true =>
   rw[hp]at Ce;have Nz:Hd (∀w,RS b s i w->Calls prog 148 #[.pointer (some ⟨b,0,none⟩),.string T] w fun e w'=>e=.returned (.bool true)/\RS b s (i+T.size) w'/\w.grownBy w' (some b)):=Ce.o;have HP:=ae hp;clear hp Ce
   go_region_held3 (fun w'=>w'.cell? ⟨D,0,none⟩=some (.string T)) ((first|(simp only[lh];assumption)|(refine World.grownBy.cell (by assumption) (by assumption) ?_;simpa using yP.o.1))) (first|(go_at_call 148;refine(Nz.o _ (by first|exact HI.o|exact HI.o.drew 1)).mono ?_;rintro e u1 ⟨rfl,hr,hg⟩))
   have hg':=dF hg;have HD1:Hd (u1.heap[D]?=some (.cells #[.string T,.func (.func fn) #[] #[]] 245 (0,0))):=by show _=_;rw[hg'.block D ((aC HDR.o)) (by simpa using yP.o.1)];exact HDR.o
   replace HI:=ae hr;replace oq:=ae (oq.o.growb hg' (Ne.symm ay.o.1));replace lY:=ae (lY.o.growb hg' (Ne.symm ay.o.2.1));replace lC:=ae (lC.o.growb hg' ay.o.2.2.1);replace HG:=ae (ag HG.o hg');clear hg hg' hr HDR d0 stf;obtain⟨sg',hs1,hs2,hs3⟩:=Ny.o l i iQ.o HP.o;obtain⟨hsg,hj⟩:sg=sg'/\j=i+T.size:=by have:=lX.o.symm.trans hs1;simpa using this
   rw[hj]at Nv;have HF:Hd (zA sg=fn/\T.toList.isEmpty=decide (sg<0)):=by rw[hsg];exact⟨hs2,hs3⟩
   clear hsg hj hs1 hs2 hs3 iQ lX CT CS;have stf:∀(a:Addr) (m:Mode) (w:World),(store a (.func (.func fn) #[] #[]) m).run prog w=stored prog w a (.func (.func fn) #[] #[]) m:=fun a m w=>run_store prog w a _ m rfl
   have d0:u1.cell? ⟨D,0,none⟩=some (.string T):=by rw[ah HD1.o];rfl
   have d1:u1.cell? ⟨D,1,none⟩=some (.func (.func fn) #[] #[]):=by rw[ah HD1.o];rfl
   obtain⟨b0,b1,b2,b3,b4,b5,b6,b7⟩:=lY.o.cells;have bf:=lY.o.f;go_wp2_with (first|(go_at_call 192;refine(Nv.o _ ((HI.o.other ay.o.2.1 _ _).other ay.o.2.1 _ _)).mono ?_));rintro e u2 ⟨x1,x2,x3,P,n,rfl,hr,hg,hok⟩;have HR2:=ae hr;replace lY:=ae ((lY.o.set01 _ _).growb hg (Ne.symm ay.o.2.1));replace oq:=ae (((oq.o.other ay.o.2.2.2 _ _).other ay.o.2.2.2 _ _).growb hg (Ne.symm ay.o.1));replace HG:=ae (ag (bJ (bJ HG.o oN.o.2 _ _) oN.o.2 _ _) hg);have gJ:=ae hok;clear hr hg hok b0 b1 b2 b3 b4 b5 b6 b7 bf d0 d1;obtain⟨b0,b1,b2,b3,b4,b5,b6,b7⟩:=lY.o.cells;have bf:=lY.o.f;obtain⟨a0,a1,a2,a3,a4,a5,a6,a7⟩:=oq.o.cells;have af:=oq.o.f;obtain⟨E,hE⟩:=zN (R.1);have HE:=ae hE;rw[hE];clear hE;go_wp2;have hrow:TB A (.string T) (.func (.func fn) #[] #[]) x1 x2 x3 P n (Cc (IU u2 (A+1) x1 x2 x3 P n) A (.string T) (.func (.func fn) #[] #[]) x1 x2 x3 P n):=VC (aeY oq.o ay.o.2.2.2 _ _ _ _ _) _ _ _ _ _
   refine bodyPost_ret (oK (p:=2) (u:=3) rfl _ _ A _ _ (0,0) _ rfl hrow underlying249 rfl (by kernel_rfl)) rfl ?_;refine⟨T,x1,x2,x3,P,n,?_,HF.o.2,Nu (aeW HR2.o ay.o.2.1 _ _ _ _ _) ay.o.1 _ _ _ _ _ _ _,aeV (aeX HG.o oN.o.2 _ _ _ _ _) oN.o.1 _ _ _ _ _ _ _,gJ.o⟩;rw[HF.o.1,HE.o];rfl
  | false =>
   rw[hp]at Ce;have Nz:Hd (∀w,RS b s i w->Calls prog 148 #[.pointer (some ⟨b,0,none⟩),.string T] w fun e w'=>e=.returned (.bool false)/\RS b s (i) w'/\w.grownBy w' (some b)):=Ce.o;have HP:=ae hp;clear hp Ce
   go_region_held3 (fun w'=>w'.cell? ⟨D,0,none⟩=some (.string T)) ((first|(simp only[lh];assumption)|(refine World.grownBy.cell (by assumption) (by assumption) ?_;simpa using yP.o.1))) (first|(go_at_call 148;refine(Nz.o _ (by first|exact HI.o|exact HI.o.drew 1)).mono ?_;rintro e u1 ⟨rfl,hr,hg⟩))
   have hg':=dF hg;have HD1:Hd (u1.heap[D]?=some (.cells #[.string T,.func (.func fn) #[] #[]] 245 (0,0))):=by show _=_;rw[hg'.block D ((aC HDR.o)) (by simpa using yP.o.1)];exact HDR.o
   replace HI:=ae hr;replace oq:=ae (oq.o.growb hg' (Ne.symm ay.o.1));replace lY:=ae (lY.o.growb hg' (Ne.symm ay.o.2.1));replace lC:=ae (lC.o.growb hg' ay.o.2.2.1);replace HG:=ae (ag HG.o hg');clear hg hg' hr HDR d0 stf;go_wp2;go_roundw
   case rel=>exact⟨k+1,by go_num,HK7.o l i HP.o,fun m hm=>by rcases Nat.lt_succ_iff_lt_or_eq.1 hm with h|h;exact iQ.o m h;rw[h];exact HP.o,HI.o,oq.o,lY.o,lC.o,HG.o⟩
   case measure=>simp[intOf];omega
open Go.RowKit
def GR(g b:Nat)(w:World):Prop:=w.cell? ⟨g,0,none⟩=some (.pointer (some ⟨b,0,none⟩))
theorem GR.drew{g b:Nat}{w:World}(h:GR g b w)(n:Nat):GR g b (w.drewN n):=h
theorem GR.growb{g b q:Nat}{w w':World}(h:GR g b w)(hg:w.grownBy w' (some q))(hn:g≠q):GR g b w':=hg.cell h (by simpa using hn)
theorem GR.grow{g b:Nat}{w w':World}(h:GR g b w)(hg:w.grownBy w' none):GR g b w':=hg.cell h (by simp)
theorem GR.other{g b v:Nat}{w:World}(h:GR g b w)(hn:g≠v)(o:Nat)(x:Value):GR g b (w.setCell ⟨v,o,none⟩ x):=by
 unfold GR at h ⊢;unfold World.cell? at h ⊢;rw[heap_setCell_other w _ g x (by simpa using hn)];exact h
theorem NC:∀(l t:List UInt8),Lib.hasPrefix l t=(decide (t.length<=l.length) && (l.take t.length == t))
 | l,[]=>by cases l<;>simp[Lib.hasPrefix]
 | [],c :: t=>by simp[Lib.hasPrefix]
 | x :: l,c :: t=>by
  show(c == x && Lib.hasPrefix l t)=_;rw[NC l t];simp only[List.length_cons,List.take_succ_cons,Nat.add_le_add_iff_right];rw[Bool.eq_iff_iff];simp only[Bool.and_eq_true,beq_iff_eq,decide_eq_true_eq,List.cons.injEq];constructor
  ·rintro⟨h1,h2,h3⟩;exact⟨h2,h1.symm,h3⟩
  ·rintro⟨h2,h1,h3⟩;exact⟨h1.symm,h2,h3⟩
theorem ae2(l t:List UInt8)(i:Nat)(h:i+t.length<=l.length):Lib.hasPrefix (l.drop i) t=(aO l i t.length == t):=by
 rw[NC];unfold aO;rw[decide_eq_true (by rw[List.length_drop];omega),Bool.true_and]
theorem ae3(l t:List UInt8)(i:Nat)(h:¬i+t.length<=l.length)(hi:i<=l.length):Lib.hasPrefix (l.drop i) t=false:=by
 rw[NC,decide_eq_false (by rw[List.length_drop];omega),Bool.false_and]
theorem toList_eq(a b:ByteArray):(a.toList == b.toList)=(a.data.toList == b.data.toList):=by rw[Go.Lib.toList_data,Go.Lib.toList_data]
theorem Fv(g b:Nat)(s t:ByteArray)(i:Nat)(E:Int)(a:Nat)(w:World)(hE:¬E=0)(hg:GR g b w)(h:VS b s i E a w) :
  Calls prog 44 #[.pointer (some ⟨g,0,none⟩),.string t] w fun e w'=>e=.returned (.bool false)/\∃n,w'=w.drewN n:=by
 have h0:=h.c0;have h1:=h.c1;have h2:=h.c2;have hn:(E == 0)=false:=by simpa using hE
 have g0:w.cell? ⟨g,0,none⟩=some (.pointer (some ⟨b,0,none⟩)):=hg;clear h hg hE;go_enter func44,ntmps44;go_wp2;go_quiet (fail);go_wp2;go_ret;exact⟨rfl,_,rfl⟩
theorem ND(g b:Nat)(s t:ByteArray)(i:Nat)(a:Nat)(w:World)(hi:i<=s.size)(hg:GR g b w)(h:VS b s i 0 a w)(hs:s.size<2 ^ 61)(ht:t.size<2 ^ 61) :
  Calls prog 44 #[.pointer (some ⟨g,0,none⟩),.string t] w fun e w'=>e=.returned (.bool (Lib.hasPrefix (s.data.toList.drop i) t.data.toList))/\∃n,w'=w.drewN n:=by
 have h0:=h.c0;have h1:=h.c1;have h2:=h.c2;have g0:w.cell? ⟨g,0,none⟩=some (.pointer (some ⟨b,0,none⟩)):=hg;have hw:IntKind.i64.wrap ((i:Int)+(t.size:Int))=(i:Int)+(t.size:Int):=by rw[IntKind.wrap_i64];omega
 clear h hg
 by_cases hf:i+t.size<=s.size
 ·have hle:decide ((i:Int)+(t.size:Int)<=(s.size:Int))=true:=by simp;omega
  obtain⟨X,hX⟩:∃X:ByteArray,X=⟨(aO s.data.toList i t.size).toArray⟩:=⟨_,rfl⟩;have sl:∀wx,(Instr.slice 9 (.string s) (some (.int .i64 (i:Int))) (some (.int .i64 ((i:Int)+(t.size:Int)))) none).run prog wx=.ok (.string X) wx:=fun wx=>by
   rw[hX];have:=tV s i (i+t.size) (by omega) hf wx;rw[show i+t.size-i=t.size by omega,show((i+t.size:Nat):Int)=(i:Int)+(t.size:Int) by omega]at this;exact this
  have hp:=ae2 s.data.toList t.data.toList i (by simpa using hf);obtain⟨r,hr⟩:=zN ((X.toList == t.toList));have HP:Hd (Lib.hasPrefix (s.data.toList.drop i) t.data.toList=r):=by
   show _=_;rw[hp,<-hr,toList_eq,hX];simp
  rw[HP.o];clear hX hp hf hi hs ht
  cases r with
  | true =>
   go_enter func44,ntmps44;go_wp2;go_quiet (fail);go_wp2;go_ret;exact⟨rfl,_,rfl⟩
  | false =>
   go_enter func44,ntmps44;go_wp2;go_quiet (fail);go_wp2;go_ret;exact⟨rfl,_,rfl⟩
 ·have hle:decide ((i:Int)+(t.size:Int)<=(s.size:Int))=false:=by simp;omega
  have HP:=ae (ae3 s.data.toList t.data.toList i (by simpa using hf) (by simpa using hi));rw[HP.o];clear hf hi hs ht;go_enter func44,ntmps44;go_wp2;go_quiet (fail);go_wp2;go_ret;exact⟨rfl,_,rfl⟩
open Go.RowKit
def OS(w:World)(base:Nat)(sl:Value)(L:List Sp):Prop:=w.ownsRow base 203 11 sl L.length (L.flatMap fP)
theorem OS.sps{w:World}{base:Nat}{sl:Value}{L:List Sp}(h:OS w base sl L):SpS w sl L:=Sz h
theorem OS.grow{w w':World}{base:Nat}{sl:Value}{L:List Sp}(h:OS w base sl L)(hg:w.grownBy w' none):OS w' base sl L:=rM h hg
theorem OS.growb{w w':World}{base:Nat}{sl:Value}{L:List Sp}{b:Nat}(h:OS w base sl L)(hg:w.grownBy w' (some b))(hb:b<base):OS w' base sl L:=by
 refine⟨h.1,?_⟩
 rcases h.2 with hn|⟨g,cap,cur,hv,hbg,hc,rest⟩
 ·exact Or.inl hn
 ·refine Or.inr ⟨g,cap,cur,hv,hbg,?_,rest⟩;rw[hg.block g ((aC hc)) (by simp;omega)];exact hc
theorem OS.base{w:World}{base base':Nat}{sl:Value}{L:List Sp}(h:OS w base sl L)(hb:base'<=base):OS w base' sl L:=by
 refine⟨h.1,?_⟩
 rcases h.2 with hn|⟨g,cap,cur,hv,hbg,rest⟩
 ·exact Or.inl hn
 ·exact Or.inr ⟨g,cap,cur,hv,Nat.le_trans hb hbg,rest⟩
theorem OS.emp(w:World)(base:Nat):OS w base (.slice none 0 0) []:=World.ownsRow_nil _ _ _ _
theorem OS.slice{w:World}{base:Nat}{sl:Value}{L:List Sp}(h:OS w base sl L):∃o n c,sl=.slice o n c:=BG h.sps
theorem OS.one{w:World}{base g:Nat}{s:Sp}(hb:base<=g)(h:w.heap[g]?=some (.cells #[.int .i64 s.f1,.int .i64 s.f2,.int .i64 s.f3,.string s.f4,.string s.f5,.int .i64 s.t1,.int .i64 s.t2,.int .i64 s.t3,.string s.t4,.string s.t5,.bool s.o] 203 (0,0))):OS w base (.slice (some ⟨g,0,none⟩) 1 1) [s]:=by
 refine⟨rfl,Or.inr ⟨g,1,_,rfl,hb,h,Nat.le_refl _,by decide,rfl,rfl⟩⟩
theorem ae4(ch:Int->Bool)(Ls:List (List Sp))(E:List Er)(hE:E.Perm (dQ 0 Ls))(hs:qK (E.map aS)) :
  (fG (fun b=>ch (having Ls.length b)) (fun _=>0) false (E.map aS)).length<=(dQ 0 Ls).length:=by
 have e1:=GX (fun b=>ch (having Ls.length b)) (E.map aS) (fun x=>ch (having Ls.length (fun j=>fO (E.map aS) j x))) (fun x=>rfl) hs (E.map aS) [] false rfl;have e2:(fun j=>tot [] j)=(fun _=>(0:Int)):=rfl;rw[e2]at e1;have hsub:=ER (fun x=>ch (having Ls.length (fun j=>fO (E.map aS) j x))) (jF (E.map aS)) false;rw[<-e1]at hsub;have h1:(jF (E.map aS)).length<=(E.map aS).length:=by
  have:∀l:List Ed,(jF l).length<=l.length:=by
   intro l
   induction l with
   | nil=>simp[jF]
   | cons e r ih =>
    rw[jF];split
    ·rw[List.length_cons];omega
    ·rw[List.length_cons,List.length_cons];omega
  exact this _
 have h2:=hsub.length_le;have h4:=hE.length_eq;rw[List.length_map]at h1;omega
def NE(f:V->Bool)(k:Nat)(w:World)(e:Ending)(w':World):Prop:=w.grownBy w' none/\∃(o:Option Addr) (n c:Nat) (T:List V),e=.returned (.tuple #[.slice o n c,.int .i64 0])/\OS w' w.heap.size (.slice o n c) (outs T)/\LOk (outs T) k/\NT T 2/\∀x,eU (outs T) x=f x
theorem ae5{T:List V}{j k:Nat}(h:NT T j)(hk:j<=k):NT T k:=⟨h.up,h.ok,h.sm,h.sd,Nat.le_trans h.ln (Nat.mul_le_mul_left _ hk)⟩
theorem VF{ch:Int->Bool}(h0:ch 0=false){Ls:List (List Sp)}{f:V->Bool}{w:World}{e:Ending}{w':World}(k:Nat)(hl2:Ls.length<=2)(hk:(dQ 0 Ls).length<=2*k)(hsz:∀l∈Ls,l.length<=1048576/\∀s∈l,jG s)(hsd:Ls.all (·.all ik)=true)(hf:∀x,ch (rF (Ls.map (·.map vJ)) x)=f x)(h:SweepPost ch Ls w e w'):NE f k w e w':=by
 refine⟨h.1,?_⟩
 rcases h.2 with⟨h1,h2⟩|⟨h1,E,vs,h2,h3,h4,h5,h6⟩
 ·exact absurd hsd h1
 ·obtain⟨o,n,c,rfl⟩:=BG h5;have hT:=adc ch Ls hsz h1 E h2 h3;have hn:=ae4 ch Ls E h2 h3;refine⟨o,n,c,_,h4,h6,⟨hT.sound,(hT.nf hl2).small,?_⟩,ae5 hT hl2,fun x=>?_⟩
  ·have:=ade (fG (fun b=>ch (having Ls.length b)) (fun _=>0) false (E.map aS));omega
  ·rw[Uc _ hT.up];have hp:=ac8 ch h0 (Ls.map (·.map vJ)) (E.map aS) (by rw[<-SE];exact h2.map _) h3 x;rw[List.length_map]at hp;rw[hp,hf]
theorem ae6(sl:Value)(L:List Sp)(k:Nat)(w:World)(h:SpS w sl L)(hL:LOk L k)(hk:k<=1048576):Calls prog 129 #[sl] w (NE (eU L) k w):=by
 have h1:=Nat.le_trans hL.ln hk;refine(ac5 sl L w h h1 hL.sm).mono ?_;intro e w' hp;refine VF (by decide) k (by simp) ?_ (by intro l hl;simp at hl;subst hl;exact⟨h1,hL.sm⟩) (by simp[hL.sd]) (fun x=>ac9 L x) hp;have h3:=A8 0 L;have h4:=hL.ln;show(L.flatMap (dO 0)++[]).length<=_;rw[List.append_nil];omega
theorem ae7(sl sm:Value)(L M:List Sp)(j k:Nat)(w:World)(h:SpS w sl L)(h':SpS w sm M)(hL:LOk L j)(hM:LOk M k)(hj:j<=1048576)(hk:k<=1048576):Calls prog 172 #[sl,sm] w (NE (fun x=>eU L x && eU M x) (j+k) w):=by
 have h1:=Nat.le_trans hL.ln hj;have h2:=Nat.le_trans hM.ln hk;refine(ac6 sl sm L M w h h' h1 hL.sm h2 hM.sm).mono ?_;intro e w' hp;refine VF (by decide) (j+k) (by simp) ?_ (by intro l hl;simp at hl;rcases hl with rfl|rfl<;>first|exact⟨h1,hL.sm⟩|exact⟨h2,hM.sm⟩) (by simp[hL.sd,hM.sd]) (fun x=>ada L M x) hp;have h3:=A8 0 L;have h5:=A8 1 M;have h4:=hL.ln;have h6:=hM.ln;show(L.flatMap (dO 0)++(M.flatMap (dO 1)++[])).length<=_;rw[List.append_nil,List.length_append];omega
def NG(b:Nat)(s:ByteArray)(E:Int)(J:Nat)(g:Sg)(w:World)(e:Ending)(w':World):Prop :=
 ∃(o:Option Addr) (n c:Nat),e=.returned (.tuple #[.slice o n c,.int .i64 E])/\RS b s J w'/\w.grownBy w' (some b)/\(E=0->OS w' w.heap.size (.slice o n c) [kH g])
def Cf(l:List UInt8)(i:Nat):Int:=if aj l i=i then 2 else(au l (aj l i)).1
def Ci(l:List UInt8)(i:Nat):Nat:=if aj l i=i then i else(au l (aj l i)).2.1
theorem ae8(b:Nat)(s:ByteArray)(i:Nat)(p:Pa)(y1 y2 y3:Int)(Q:ByteArray)(m:Int)(hp:yj y1 y2 y3 Q m=kW p)(w:World)(hi:i<=s.size)(h:RS b s i w)(hs:s.size<=200) :
  Calls prog 171 #[.pointer (some ⟨b,0,none⟩),.agg #[.int .i64 y1,.int .i64 y2,.int .i64 y3,.string Q,.string ⟨#[]⟩,.int .i64 m]] w (NG b s (Cf s.data.toList i) (Ci s.data.toList i) (xW p (au s.data.toList (aj s.data.toList i)).2.2) w):=by
 have CB:=ae (fun w (h:RS b s i w)=>MO b s i w hi h (by omega));have hsk:aj s.data.toList i<=s.size:=by have:=qV s.data.toList i (by simpa using hi);simp at this;exact this
 have hge:=sG s.data.toList i;have CP:=ae (fun w (h:RS b s (aj s.data.toList i) w)=>Vw b s _ w hsk h (by omega));have hpl:=MQ s.data.toList (aj s.data.toList i);have CW:=ae (fun(h0:(au s.data.toList (aj s.data.toList i)).1=0)=>ad6 p _ (IA s.data.toList _ (by simpa using hsk) h0) (by simp at hpl;omega));have uD:Hd (b<w.heap.size):=by obtain⟨t,h⟩:=h;exact(aC h)
 unfold Cf Ci;obtain⟨K,hK⟩:=zN (aj s.data.toList i);rw[hK]at CB CP CW hge ⊢;obtain⟨E,J,q,hR⟩:∃E J q,au s.data.toList K=(E,J,q):=⟨_,_,_,rfl⟩;rw[hR]at CP CW ⊢;simp only[]at CW ⊢;have HI:=ae h;have VG:=ae hp;clear hK hR h hi hs hsk hpl hp
 by_cases hz:K=i
 ·rw[if_pos hz,if_pos hz];rw[hz,decide_eq_false (Nat.lt_irrefl i)]at CB;clear hz hge CP CW;go_enter func171,ntmps171;go_wp2_with (go_at_call 147;refine(CB.o _ (HI.o.grow (ak (ai w none) _))).mono ?_);rintro e w1 ⟨rfl,hr,hg⟩;have HF:Hd (RS b s i w1/\w.grownBy w1 (some b)):=⟨hr,ag (dA (ak (ai w none) _) _) hg⟩;clear hr hg;go_wp2;exact bodyPost_ret (results_tmp2 (t:=4) (u:=5) rfl _ _ _) rfl ⟨_,_,_,rfl,HF.o.1,HF.o.2,fun h=>absurd h (by decide)⟩
 ·rw[if_neg hz,if_neg hz];rw[decide_eq_true (show i<K by omega)]at CB;clear hz hge;go_enter func171,ntmps171;go_wp2_with (go_at_call 147;refine(CB.o _ (HI.o.grow (ak (ai w none) _))).mono ?_);rintro e w1 ⟨rfl,hr,hg⟩;obtain⟨A,hA⟩:=zN (w.heap.size);have aG:Hd (PB A y1 y2 y3 Q m w1):=by
   refine PB.growb (w:=w.alloc (.cells #[.int .i64 y1,.int .i64 y2,.int .i64 y3,.string Q,.string ⟨#[]⟩,.int .i64 m] 247)) ?_ hg (by have:=uD.o;omega);unfold PB;rw[<-hA];exact heap_alloc_new w _
  have HG:=ae (ag (dA (ak (ai w none) _) _) hg);have zg:Hd (w.heap.size<=A/\A≠b):=⟨Nat.le_of_eq hA,by have:=uD.o;omega⟩;have HR1:=ae hr
  try rw[hA]
  clear hr hg hA;go_wp2_with (go_at_call 192;refine(CP.o _ HR1.o).mono ?_);rintro e w2 ⟨x1,x2,x3,P,n,rfl,hr,hg,hok⟩;replace HR1:Hd (RS b s J w2):=hr;replace HG:=ae (ag HG.o hg);replace aG:=ae (aG.o.growb hg zg.o.2);have gJ:Hd (E=0->yj x1 x2 x3 P n=kW q):=hok;clear hr hg hok
  cases hz:(E == 0) with
  | false =>
   have jI:Hd (E≠0):=by show E≠0;simpa using hz
   go_wp2;exact bodyPost_ret (results_tmp2 (t:=4) (u:=5) rfl _ _ _) rfl ⟨_,_,_,rfl,HR1.o.grow (ak (ai w2 none) _),ag HG.o (dA (ak (ai w2 none) _) _),fun h=>absurd h jI.o⟩
  | true =>
   have hE:E=0:=by simpa using hz
   subst hE;have hc:=CW.o rfl;rw[<-gJ.o rfl,<-VG.o]at hc;obtain⟨s1,hs1⟩:=zN (kH (xW p q));have CX:Hd (∀w,Calls prog 193 #[.agg #[.int .i64 y1,.int .i64 y2,.int .i64 y3,.string Q,.string ⟨#[]⟩,.int .i64 m],.agg #[.int .i64 x1,.int .i64 x2,.int .i64 x3,.string P,.string ⟨#[]⟩,.int .i64 n]] w fun e w'=>e=.returned (.agg #[.int .i64 s1.f1,.int .i64 s1.f2,.int .i64 s1.f3,.string s1.f4,.string s1.f5,.int .i64 s1.t1,.int .i64 s1.t2,.int .i64 s1.t3,.string s1.t4,.string s1.t5,.bool s1.o])/\w.grownBy w' none):=fun w=>by rw[<-hs1];exact hc w
   have pF:=ae hs1;clear hc hs1 CW gJ VG CB CP hz;obtain⟨C,hC⟩:=zN (w2.heap.size);obtain⟨W,hW⟩:=zN (w2.alloc (.cells #[.int .i64 x1,.int .i64 x2,.int .i64 x3,.string P,.string ⟨#[]⟩,.int .i64 n] 247));have hgW:w2.grownBy W none:=by rw[<-hW];exact ak (ai w2 none) _
   have aJ:Hd (PB C x1 x2 x3 P n W):=by
    show PB C x1 x2 x3 P n W;unfold PB;rw[<-hW,<-hC];exact heap_alloc_new w2 _
   replace aG:=ae (aG.o.grow hgW);replace HG:=ae (ag HG.o (dA hgW _));replace HR1:=ae (HR1.o.grow hgW);obtain⟨a0,a1,a2,a3,a4,a5⟩:=aG.o.cells;obtain⟨c0,c1,c2,c3,c4,c5⟩:=aJ.o.cells;clear hgW;go_wp2_with (first|(go_at_call 193;refine(CX.o _).mono ?_));rintro e w3 ⟨rfl,hg⟩;have dD:=ae (ag HG.o (dA hg _));have HR3:=ae (HR1.o.grow hg);clear hW hC a0 a1 a2 a3 a4 a5 c0 c1 c2 c3 c4 c5;clear hg;go_wp2;refine bodyPost_ret (results_tmp2 (t:=4) (u:=5) rfl _ _ _) rfl ⟨_,_,_,rfl,HR3.o.grow (ak (ai w3 none) _),ag dD.o (dA (ak (ai w3 none) _) _),fun _=>?_⟩;rw[pF.o];exact OS.one dD.o.size (heap_alloc_new w3 _)
end Go.Proofs.YtiinliaoojfjaaaGreatDoor
