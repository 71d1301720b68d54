import Derived.Test.YtnnbgjaphfhibaaGreatDoorE12
import Derived.Test.YtnnbgjaphfhibaaGreatDoorE09
set_option linter.all false
set_option maxRecDepth 100000
set_option maxHeartbeats 0
open Go.Proofs.Tryz
namespace Go.Proofs.YtnnbgjaphfhibaaGreatDoor
open Go.RowKit
def VC(b:Nat)(s:ByteArray)(w:World)(e:Ending)(w':World):Prop :=
 ∃(x1 x2 x3:Int) (x4 x5:List UInt8) (E:Int) (j:Nat),e=.returned (.tuple #[.agg #[.int .i64 x1,.int .i64 x2,.int .i64 x3,.string ⟨x4.toArray⟩,.string ⟨x5.toArray⟩],.int .i64 E]) ∧
  RS b s j w'/\w.grownBy w' (some b)/\E=(eu s.data.toList).1/\(E=0->(eu s.data.toList).2.2=⟨x1,x2,x3,x4,x5⟩)/\(E≠0->(eu s.data.toList).2.1=j)
theorem adr{b:Nat}{s:ByteArray}{i:Nat}{w:World}(h:RS b s i w)(o1 o2:Obj):RS b s i ((w.alloc o1).alloc o2):=h.grow (bC (bC (au w none) o1) o2)
theorem Io(w:World)(o1 o2:Obj):((w.alloc o1).alloc o2).heap[w.heap.size+1]?=some o2:=by
 have:=heap_alloc_new (w.alloc o1) o2;simpa using this
theorem ads{b A:Nat}{s:ByteArray}{j:Nat}{w:World}(h:RS b s j w)(hn:b≠A)(y1 y2 y3:Int)(x4 x5:ByteArray):RS b s j (uZ w A y1 y2 y3 x4 x5):=((((h.other hn _ _).other hn _ _).other hn _ _).other hn _ _).other hn _ _
theorem VD(l:List UInt8):eu l=if(dh l).1=0 then(if(dn l (dh l).2.1).1=0 then(if(dn l (dh l).2.1).2.1<l.length then(2,(dn l (dh l).2.1).2.1,zeroV) else(0,0,⟨(dh l).2.2.1,(dh l).2.2.2.1,(dh l).2.2.2.2,(dn l (dh l).2.1).2.2.1,(dn l (dh l).2.1).2.2.2⟩)) else((dn l (dh l).2.1).1,(dn l (dh l).2.1).2.1,zeroV)) else((dh l).1,(dh l).2.1,zeroV):=by
 unfold eu dn
 by_cases h1:(dh l).1=0
 ·rw[if_pos h1,if_pos h1]
  by_cases h2:(bu 45 true l (dh l).2.1).1=0
  ·simp only[if_pos h2]
   by_cases h3:(bu 43 false l (bu 45 true l (dh l).2.1).2.1).1=0
   ·simp only[if_pos h3,if_true]
   ·simp only[if_neg h3]
  ·simp only[if_neg h2]
 ·rw[if_neg h1,if_neg h1]
theorem adt(b:Nat)(s:ByteArray)(w:World)(h:RS b s 0 w)(hs:s.size<=100) :
  Calls prog 127 #[.pointer (some ⟨b,0,none⟩)] w (VC b s w):=by
 have HB:Hd (b<w.heap.size):=by obtain⟨t,h⟩:=h;exact(dO h)
 have HI:=ae h;have CN:=ae (fun v w (h1:RS b s 0 w) (h2:VB v 0 0 0 w) (h3:b≠v)=>ab5 b v s w h1 h2 h3 (by omega));have Ip:=ae (fun i w (hi:i<=s.size) (h:RS b s i w)=>ab9 b s i w hi h (by omega));have kQ:Hd (s.data.toList.length=s.size):=by show s.data.toList.length=s.size;simp
 clear h hs;have rV:=VD s.data.toList;obtain⟨E0,J0,X1,X2,X3,hN⟩:∃E J A B C,dh s.data.toList=(E,J,A,B,C):=⟨_,_,_,_,_,rfl⟩;obtain⟨E1,J1,P1,B1,hT⟩:∃E J P B,dn s.data.toList J0=(E,J,P,B):=⟨_,_,_,_,rfl⟩;rw[hN]at CN rV;simp only at CN rV;rw[hT]at rV;simp only at rV;have Iq:Hd (E0=0->J0<=s.size):=fun h0=>by
  have:=(RH s.data.toList (by rw[hN];exact h0)).1;rw[hN,kQ.o]at this;exact this
 have rG:Hd (J0<=s.size->E1=0->J1<=s.size):=fun hj h0=>by
  rw[<-kQ.o]at hj ⊢;unfold dn at hT
  by_cases h2:(bu 45 true s.data.toList J0).1=0
  ·have l1:=Un hj h2;rw[if_pos h2]at hT
   by_cases h3:(bu 43 false s.data.toList (bu 45 true s.data.toList J0).2.1).1=0
   ·rw[if_pos h3]at hT;have l2:=Un l1 h3;have e:=congrArg (·.2.1) hT;simp only at e;rw[<-e];exact l2
   ·rw[if_neg h3]at hT;exact absurd ((congrArg Prod.fst hT).trans h0) h3
  ·rw[if_neg h2]at hT;exact absurd ((congrArg Prod.fst hT).trans h0) h2
 have CT0:Hd (∀w,J0<=s.size->RS b s J0 w->Calls prog 168 #[.pointer (some ⟨b,0,none⟩)] w fun e w'=>e=.returned (.tuple #[.string ⟨P1.toArray⟩,.string ⟨B1.toArray⟩,.int .i64 E1])/\RS b s J1 w'/\w.grownBy w' (some b)):=fun w hj h=>by
  have:=Ip.o J0 w hj h;rw[hT]at this;exact this
 have HV:=ae rV;clear hN hT rV Ip;go_enter func127,ntmps127;go_wp2_with (go_at_call 167;refine(CN.o _ _ (adr HI.o _ _) (Io w _ _) (by have:=HB.o;omega)).mono ?_);rintro e w1 ⟨rfl,hr1,⟨y1,y2,y3,hvb,hy⟩,hg1⟩;obtain⟨A,hA⟩:=zN (w.heap.size);have uk:Hd (VX A 0 0 0 ⟨#[]⟩ ⟨#[]⟩ w1):=by
  show w1.heap[A]?=_;rw[<-hA,hg1.block w.heap.size (by simp;omega) (by have:=HB.o;omega) (by omega),Lib.alloc_old _ _ _ (by simp)];exact heap_alloc_new w _
 have HG:Hd (w.grownBy w1 (some b)):=by
  refine⟨hg1.os,hg1.tape,hg1.output,by have:=hg1.size;simp at this;omega,fun k hk hn=>?_⟩;rw[hg1.block k (by simp;omega) (by simpa using hn) (by omega),Lib.alloc_old _ _ _ (by simp;omega),Lib.alloc_old _ _ _ hk]
 have HR1:=ae hr1;have HY:=ae hy;have HX:Hd (VX (A+1) y1 y2 y3 ⟨#[]⟩ ⟨#[]⟩ w1):=by rw[<-hA];exact hvb
 have D8:Hd (b<A):=by rw[<-hA];exact HB.o
 have um:=ae (Nat.le_of_eq hA);rw[hA];clear hA hr1 hvb hy hg1;have END:Hd (∀(W:World) (j:Nat) (z1 z2 z3:Int) (x4 x5:List UInt8) (E:Int),RS b s j W->VX A 0 0 0 ⟨#[]⟩ ⟨#[]⟩ W->w.grownBy W (some b)->E=(eu s.data.toList).1->(E=0->(eu s.data.toList).2.2=⟨z1,z2,z3,x4,x5⟩)->(E≠0->(eu s.data.toList).2.1=j) →
   VX A z1 z2 z3 ⟨x4.toArray⟩ ⟨x5.toArray⟩ (uZ W A z1 z2 z3 ⟨x4.toArray⟩ ⟨x5.toArray⟩)/\VC b s w (.returned (.tuple #[.agg #[.int .i64 z1,.int .i64 z2,.int .i64 z3,.string ⟨x4.toArray⟩,.string ⟨x5.toArray⟩],.int .i64 E])) (uZ W A z1 z2 z3 ⟨x4.toArray⟩ ⟨x5.toArray⟩)):=by
  intro W j z1 z2 z3 x4 x5 E h1 h2 h3 h4 h5 h6;exact⟨L9 h2 _ _ _ _ _,z1,z2,z3,x4,x5,E,j,rfl,ads h1 (by have:=D8.o;omega) _ _ _ _ _,ab3 h3 um.o _ _ _ _ _,h4,h5,h6⟩
 cases hz:(E0 == 0) with
 | false =>
  obtain⟨v0,v1,v2,v3,v4⟩:=HX.o.cells;obtain⟨ca0,ca1,ca2,ca3,ca4⟩:=uk.o.cells;have ra:=uk.o.f;have HE:Hd (E0=(eu s.data.toList).1/\(eu s.data.toList).2.1=J0/\E0≠0):=by
   have h0:¬E0=0:=by simpa using hz
   refine⟨?_,?_,h0⟩<;>(rw[HV.o,if_neg h0])
  go_wp2;obtain⟨hrow,hpost⟩:=END.o w1 J0 0 0 0 [] [] E0 HR1.o uk.o HG.o HE.o.1 (fun h=>absurd h HE.o.2.2) (fun _=>HE.o.2.1);exact bodyPost_ret (Ht (p:=2) (u:=3) rfl _ _ A _ _ (0,0) _ rfl hrow underlying147 rfl (by kernel_rfl)) rfl hpost
 | true =>
  have hE:E0=0:=by simpa using hz
  subst hE;clear hz;have hj0:=Iq.o rfl;have rW:Hd (eu s.data.toList=if E1=0 then(if J1<s.data.toList.length then(2,J1,zeroV) else(0,0,⟨X1,X2,X3,P1,B1⟩)) else(E1,J1,zeroV)):=by
   show eu s.data.toList=_;rw[HV.o,if_pos rfl]
  have HY2:Hd (y1=X1/\y2=X2/\y3=X3):=by
   have hy:=HY.o rfl;simp only[Prod.mk.injEq]at hy;exact hy
  clear HV HY;have CTw:=ae (CT0.o w1 hj0 HR1.o);have HJs:=ae (rG.o hj0);clear hj0;go_wp2_with (first|(go_at_call 168;refine CTw.o.mono ?_));rintro e u1 ⟨rfl,hr,hg⟩;have MJ:=ae hr;have Nw:=ae (HX.o.grow hg (by have:=D8.o;omega));have Ny:=ae (uk.o.grow hg (by have:=D8.o;omega));have MK:=ae (ai HG.o hg);clear hr hg;obtain⟨v0,v1,v2,v3,v4⟩:=Nw.o.cells;have rv:=Nw.o.f;obtain⟨ca0,ca1,ca2,ca3,ca4⟩:=Ny.o.cells;have ra:=Ny.o.f;obtain⟨U,hU⟩:=zN ((u1.setCell ⟨A+1,3,none⟩ (.string ⟨P1.toArray⟩)).setCell ⟨A+1,4,none⟩ (.string ⟨B1.toArray⟩));have Ir:Hd (RS b s J1 U):=by
   show RS b s J1 U;rw[<-hU];exact(MJ.o.other (by have:=D8.o;omega) _ _).other (by have:=D8.o;omega) _ _
  have HXU:Hd (VX (A+1) y1 y2 y3 ⟨P1.toArray⟩ ⟨B1.toArray⟩ U):=by
   show VX _ _ _ _ _ _ U;rw[<-hU];exact(Nw.o.set3 _).set4 _
  have Nz:Hd (VX A 0 0 0 ⟨#[]⟩ ⟨#[]⟩ U):=by
   show VX _ _ _ _ _ _ U;rw[<-hU];exact(Ny.o.other (by omega) _ _).other (by omega) _ _
  have NC:Hd (w.grownBy U (some b)):=by
   show w.grownBy U (some b);have:=um.o;rw[<-hU];exact yO (yO MK.o (by omega) _ _) (by omega) _ _
  have CE:Hd (Calls prog 169 #[.pointer (some ⟨b,0,none⟩)] ((u1.setCell ⟨A+1,3,none⟩ (.string ⟨P1.toArray⟩)).setCell ⟨A+1,4,none⟩ (.string ⟨B1.toArray⟩)) fun e w'=>e=.returned (.bool (decide (J1=s.size)))/\∃n,w'=U.drewN n):=by
   show Calls _ _ _ _ _;rw[hU];exact aaX b s J1 U Ir.o
  have HU:=ae hU;clear hU
  cases hz1:(E1 == 0) with
  | false =>
   have HE:Hd (E1=(eu s.data.toList).1/\(eu s.data.toList).2.1=J1/\E1≠0):=by
    have h0:¬E1=0:=by simpa using hz1
    refine⟨?_,?_,h0⟩<;>(rw[rW.o,if_neg h0])
   go_wp2;obtain⟨hrow,hpost⟩:=END.o U J1 0 0 0 [] [] E1 Ir.o Nz.o NC.o HE.o.1 (fun h=>absurd h HE.o.2.2) (fun _=>HE.o.2.1);rw[HU.o];exact bodyPost_ret (Ht (p:=2) (u:=3) rfl _ _ A _ _ (0,0) _ rfl hrow underlying147 rfl (by kernel_rfl)) rfl hpost
  | true =>
   have h0:E1=0:=by simpa using hz1
   subst h0;clear hz1;have hj:=HJs.o rfl
   cases hJ:decide (J1=s.size) with
   | false =>
    rw[hJ]at CE;have HE:Hd ((2:Int)=(eu s.data.toList).1/\(eu s.data.toList).2.1=J1):=by
     have h1:J1<s.data.toList.length:=by rw[kQ.o];have:=of_decide_eq_false hJ;omega
     refine⟨?_,?_⟩<;>(rw[rW.o,if_pos rfl,if_pos h1])
    clear hj hJ;go_wp2_with (go_at_call 169;refine CE.o.mono ?_);rintro e u2 ⟨rfl,n,hn⟩;have HR2:Hd (RS b s J1 u2):=by show RS b s J1 u2;rw[hn];exact Ir.o.drew n
    have HA2:Hd (VX A 0 0 0 ⟨#[]⟩ ⟨#[]⟩ u2):=by show VX _ _ _ _ _ _ u2;rw[hn];exact Nz.o
    have HG2:Hd (w.grownBy u2 (some b)):=by show w.grownBy u2 (some b);rw[hn];exact ay NC.o n
    clear hn v0 v1 v2 v3 v4 rv ca0 ca1 ca2 ca3 ca4 ra;obtain⟨ca0,ca1,ca2,ca3,ca4⟩:=HA2.o.cells;have ra:=HA2.o.f;go_wp2;obtain⟨hrow,hpost⟩:=END.o u2 J1 0 0 0 [] [] 2 HR2.o HA2.o HG2.o HE.o.1 (fun h=>absurd h (by decide)) (fun _=>HE.o.2);exact bodyPost_ret (Ht (p:=2) (u:=3) rfl _ _ A _ _ (0,0) _ rfl hrow underlying147 rfl (by kernel_rfl)) rfl hpost
   | true =>
    rw[hJ]at CE;have HE:Hd ((0:Int)=(eu s.data.toList).1/\(eu s.data.toList).2.2=⟨y1,y2,y3,P1,B1⟩):=by
     have h1:¬J1<s.data.toList.length:=by rw[kQ.o];have:=of_decide_eq_true hJ;omega
     obtain⟨e1,e2,e3⟩:=HY2.o;refine⟨?_,?_⟩<;>(rw[rW.o,if_pos rfl,if_neg h1])
     rw[e1,e2,e3]
    clear hj hJ;go_wp2_with (go_at_call 169;refine CE.o.mono ?_);rintro e u2 ⟨rfl,n,hn⟩;have HR2:Hd (RS b s J1 u2):=by show RS b s J1 u2;rw[hn];exact Ir.o.drew n
    have HA2:Hd (VX A 0 0 0 ⟨#[]⟩ ⟨#[]⟩ u2):=by show VX _ _ _ _ _ _ u2;rw[hn];exact Nz.o
    have HX2:Hd (VX (A+1) y1 y2 y3 ⟨P1.toArray⟩ ⟨B1.toArray⟩ u2):=by show VX _ _ _ _ _ _ u2;rw[hn];exact HXU.o
    have HG2:Hd (w.grownBy u2 (some b)):=by show w.grownBy u2 (some b);rw[hn];exact ay NC.o n
    clear hn v0 v1 v2 v3 v4 rv ca0 ca1 ca2 ca3 ca4 ra;obtain⟨ca0,ca1,ca2,ca3,ca4⟩:=HA2.o.cells;have ra:=HA2.o.f;obtain⟨v0,v1,v2,v3,v4⟩:=HX2.o.cells;go_wp2;obtain⟨hrow,hpost⟩:=END.o u2 J1 y1 y2 y3 P1 B1 0 HR2.o HA2.o HG2.o HE.o.1 (fun _=>HE.o.2) (fun h=>absurd rfl h);exact bodyPost_ret (Ht (p:=2) (u:=3) rfl _ _ A _ _ (0,0) _ rfl hrow underlying147 rfl (by kernel_rfl)) rfl hpost
open Go.RowKit
theorem adu(l:List UInt8)(h:¬(eu l).1=0):(eu l).2.2=zeroV:=by
 unfold eu at h ⊢
 repeat' split
 all_goals first|rfl|(exfalso;simp_all)
theorem adv(l:List UInt8)(h:(eu l).1=0):(eu l).2.1=0:=by
 unfold eu at h ⊢
 repeat' split
 all_goals first|rfl|(exfalso;simp_all)
def VE(v:Vv):Value:=.agg #[.int .i64 v.major,.int .i64 v.minor,.int .i64 v.patch,.string ⟨v.pre.toArray⟩,.string ⟨v.build.toArray⟩]
theorem parse_any(s:ByteArray)(w:World)(hs:s.size<2 ^ 62) :
  Calls prog 90 #[.string s] w fun e w'=>e=.returned (.tuple #[VE (jZ s.data.toList).2.2,.int .i64 (jZ s.data.toList).1,.int .i64 ((jZ s.data.toList).2.1:Nat)])/\w.grownBy w' none:=by
 by_cases h100:100<s.size
 ·have hp:jZ s.data.toList=(1,0,zeroV):=by unfold jZ;rw[if_pos (by simpa using h100)]
  rw[hp];clear hp;go_enter func90,ntmps90;go_wp2;exact bodyPost_ret (qm (p:=2) (u:=3) (r:=4) rfl _ _ w.heap.size _ _ (0,0) _ rfl (heap_alloc_new w _) underlying147 rfl (by kernel_rfl)) rfl ⟨rfl,bC (au w none) _⟩
 ·have hp:jZ s.data.toList=eu s.data.toList:=by unfold jZ;rw[if_neg (by simpa using h100)]
  rw[hp];have CV:=ae (fun b w (h:RS b s 0 w)=>adt b s w h (by omega));clear hp hs;go_enter func90,ntmps90;go_wp2_with (go_at_call 127;refine(CV.o _ _ ⟨_,Io w _ _⟩).mono ?_);rintro e w1 ⟨x1,x2,x3,x4,x5,E,j,rfl,hr,hg,hE,hok,herr⟩;obtain⟨A,hA⟩:=zN (w.heap.size);have uk:Hd (VX A 0 0 0 ⟨#[]⟩ ⟨#[]⟩ w1):=by
   show w1.heap[A]?=_;rw[<-hA,hg.block w.heap.size (by simp;omega) (by simp),Lib.alloc_old _ _ _ (by simp)];exact heap_alloc_new w _
  have HG:Hd (w.grownBy w1 none):=by
   refine⟨hg.os,hg.tape,hg.output,by have:=hg.size;simp at this;omega,fun k hk _=>?_⟩;rw[hg.block k (by simp;omega) (by simp;omega),Lib.alloc_old _ _ _ (by simp;omega),Lib.alloc_old _ _ _ hk]
  have um:=ae (Nat.le_of_eq hA);have HE:Hd (E=(eu s.data.toList).1/\(E=0->(eu s.data.toList).2.2=⟨x1,x2,x3,x4,x5⟩)/\(E≠0->(eu s.data.toList).2.1=j)):=⟨hE,hok,herr⟩;rw[hA]at hr;have HR:=ae hr;rw[hA];clear hA hr hg hE hok herr;obtain⟨ca0,ca1,ca2,ca3,ca4⟩:=uk.o.cells;have ra:=uk.o.f;have r1:=HR.o.c1;have hlt1:A+1<w1.heap.size:=by obtain⟨t,h⟩:=HR.o;exact(dO h)
  have hlt0:A<w1.heap.size:=by omega
  cases hz:(E == 0) with
  | false =>
   go_wp2;obtain⟨W,hW⟩:=zN (w1.alloc (.cells #[.int .i64 x1,.int .i64 x2,.int .i64 x3,.string ⟨x4.toArray⟩,.string ⟨x5.toArray⟩] 147));have hgW:w1.grownBy W none:=by rw[<-hW];exact bC (au w1 none) _
   have ND:Hd (VX A 0 0 0 ⟨#[]⟩ ⟨#[]⟩ W):=by show W.heap[A]?=_;rw[hgW.block A hlt0 (by simp)];exact uk.o
   have HRW:=ae (HR.o.grow hgW);have fJ:=ae (ai HG.o hgW);rw[hW];clear hW hgW ca0 ca1 ca2 ca3 ca4 ra r1 hlt0 hlt1 HR HG uk;obtain⟨ca0,ca1,ca2,ca3,ca4⟩:=ND.o.cells;have ra:=ND.o.f;have r1:=HRW.o.c1;have HF:Hd ((eu s.data.toList).2.2=zeroV/\(eu s.data.toList).2.1=j/\(eu s.data.toList).1=E):=by
    have h0:¬E=0:=by simpa using hz
    have h:=HE.o;exact⟨adu _ (by rw[<-h.1];exact h0),h.2.2 h0,h.1.symm⟩
   go_region
   go_wp2;refine bodyPost_ret (qm (p:=2) (u:=3) (r:=4) rfl _ _ A _ _ (0,0) _ rfl (L9 ND.o 0 0 0 ⟨#[]⟩ ⟨#[]⟩) underlying147 rfl (by kernel_rfl)) rfl ⟨?_,ay (tX fJ.o um.o 0 0 0 ⟨#[]⟩ ⟨#[]⟩) 1⟩;rw[HF.o.1,HF.o.2.1,HF.o.2.2];rfl
  | true =>
   have hE0:E=0:=by simpa using hz
   have HF:Hd ((eu s.data.toList).2.2=⟨x1,x2,x3,x4,x5⟩/\(eu s.data.toList).2.1=0/\(eu s.data.toList).1=0):=by
    have h:=HE.o;have h1:(eu s.data.toList).1=0:=by rw[<-h.1];exact hE0
    exact⟨h.2.1 hE0,adv _ h1,h1⟩
   subst hE0;go_wp2;refine bodyPost_ret (qm (p:=2) (u:=3) (r:=4) rfl _ _ A _ #[.int .i64 x1,.int .i64 x2,.int .i64 x3,.string ⟨x4.toArray⟩,.string ⟨x5.toArray⟩] (0,0) _ rfl ((Lib.alloc_old _ _ _ (by simpa [World.setCell] using hlt0)).trans (L9 uk.o x1 x2 x3 ⟨x4.toArray⟩ ⟨x5.toArray⟩)) underlying147 rfl (by kernel_rfl)) rfl ⟨?_,bC (tX HG.o um.o x1 x2 x3 ⟨x4.toArray⟩ ⟨x5.toArray⟩) _⟩;rw[HF.o.1,HF.o.2.1,HF.o.2.2];rfl
open Go.RowKit
def VS(b:Nat)(s:ByteArray)(i:Nat)(E:Int)(a:Nat)(w:World):Prop:=w.heap[b]?=some (.cells #[.string s,.int .i64 (i:Int),.int .i64 E,.int .i64 (a:Int)] 237 (0,0))
theorem VS.c0{b:Nat}{s:ByteArray}{i:Nat}{E:Int}{a:Nat}{w:World}(h:VS b s i E a w):w.cell? ⟨b,0,none⟩=some (.string s):=by rw[ag h];rfl
theorem VS.c1{b:Nat}{s:ByteArray}{i:Nat}{E:Int}{a:Nat}{w:World}(h:VS b s i E a w):w.cell? ⟨b,1,none⟩=some (.int .i64 (i:Int)):=by rw[ag h];rfl
theorem VS.c2{b:Nat}{s:ByteArray}{i:Nat}{E:Int}{a:Nat}{w:World}(h:VS b s i E a w):w.cell? ⟨b,2,none⟩=some (.int .i64 E):=by rw[ag h];rfl
theorem VS.c3{b:Nat}{s:ByteArray}{i:Nat}{E:Int}{a:Nat}{w:World}(h:VS b s i E a w):w.cell? ⟨b,3,none⟩=some (.int .i64 (a:Int)):=by rw[ag h];rfl
theorem VS.f1{b:Nat}{s:ByteArray}{i:Nat}{E:Int}{a:Nat}{w:World}(h:VS b s i E a w):w.frozen? ⟨b,1,none⟩=false:=Lib.frozen_of_heap h 1
theorem VS.f2{b:Nat}{s:ByteArray}{i:Nat}{E:Int}{a:Nat}{w:World}(h:VS b s i E a w):w.frozen? ⟨b,2,none⟩=false:=Lib.frozen_of_heap h 2
theorem VS.f3{b:Nat}{s:ByteArray}{i:Nat}{E:Int}{a:Nat}{w:World}(h:VS b s i E a w):w.frozen? ⟨b,3,none⟩=false:=Lib.frozen_of_heap h 3
theorem VS.drew{b:Nat}{s:ByteArray}{i:Nat}{E:Int}{a:Nat}{w:World}(h:VS b s i E a w)(n:Nat):VS b s i E a (w.drewN n):=h
theorem VS.set1{b:Nat}{s:ByteArray}{i:Nat}{E:Int}{a:Nat}{w:World}(h:VS b s i E a w)(j:Nat):VS b s j E a (w.setCell ⟨b,1,none⟩ (.int .i64 (j:Int))):=by
 unfold VS at h ⊢;simp[World.setCell,Array.getElem?_modify,h]
theorem VS.set2{b:Nat}{s:ByteArray}{i:Nat}{E:Int}{a:Nat}{w:World}(h:VS b s i E a w)(F:Int):VS b s i F a (w.setCell ⟨b,2,none⟩ (.int .i64 F)):=by
 unfold VS at h ⊢;simp[World.setCell,Array.getElem?_modify,h]
theorem VS.set3{b:Nat}{s:ByteArray}{i:Nat}{E:Int}{a:Nat}{w:World}(h:VS b s i E a w)(c:Nat):VS b s i E c (w.setCell ⟨b,3,none⟩ (.int .i64 (c:Int))):=by
 unfold VS at h ⊢;simp[World.setCell,Array.getElem?_modify,h]
theorem vG(b:Nat)(s:ByteArray)(i:Nat)(a:Nat)(F:Int)(c:Nat)(w:World)(h:VS b s i 0 a w) :
  Calls prog 166 #[.pointer (some ⟨b,0,none⟩),.int .i64 F,.int .i64 (c:Int)] w fun e w'=>e=.returned (.tuple #[])/\VS b s i F c w'/\w.grownBy w' (some b):=by
 have h2:=h.c2;have h3:=h.c3;have f2:=h.f2;have f3:=h.f3;have HR:=ae h;clear h;go_enter func166,ntmps166;go_wp2
 go_end0
 exact⟨rfl,(HR.o.set2 F).set3 c,aS (aS (au w _) _ _) _ _⟩
theorem adw(b:Nat)(s:ByteArray)(i:Nat)(E:Int)(hE:E≠0)(a:Nat)(F:Int)(c:Nat)(w:World)(h:VS b s i E a w) :
  Calls prog 166 #[.pointer (some ⟨b,0,none⟩),.int .i64 F,.int .i64 (c:Int)] w fun e w'=>e=.returned (.tuple #[])/\VS b s i E a w'/\w.grownBy w' (some b):=by
 have h2:=h.c2;have HR:=ae h;have hn:(E == 0)=false:=by simpa using hE
 clear h hE;go_enter func166,ntmps166;go_wp2
 go_end0
 exact⟨rfl,HR.o,au w _⟩
theorem adx(b:Nat)(s:ByteArray)(i:Nat)(E:Int)(a:Nat)(c:UInt8)(w:World)(hc:s.data.toList[i]?=some c)(h:VS b s i E a w)(hs:s.size<2 ^ 62) :
  Calls prog 164 #[.pointer (some ⟨b,0,none⟩),.int .u8 (c.toNat:Int)] w fun e w'=>e=.returned (.tuple #[])/\VS b s (i+1) E a w'/\w.grownBy w' (some b):=by
 have h0:=h.c0;have h1:=h.c1;have f1:=h.f1;have HR:=ae h;clear h;have hlt:i<s.size:=by have:=(List.getElem?_eq_some_iff.1 hc).1;simpa using this
 rw[lL s i hlt]at hc;have hc':=Option.some.inj hc;clear hc;subst hc';have hd:decide ((s.size:Int)<=(i:Int))=false:=by simp;omega
 have hw:IntKind.i64.wrap ((i:Int)+1)=((i+1:Nat):Int):=by rw[IntKind.wrap_i64];omega
 go_enter func164,ntmps164;go_wp2;go_quiet (fail);go_wp2
 go_end0
 exact⟨rfl,(HR.o.drew nq).set1 (i+1),aS (ay (au w _) _) _ _⟩
theorem ady(b:Nat)(s:ByteArray)(i:Nat)(a:Nat)(c:UInt8)(w:World)(hi:i<=s.size)(hc:¬s.data.toList[i]?=some c)(h:VS b s i 0 a w)(hs:s.size<2 ^ 62) :
  Calls prog 164 #[.pointer (some ⟨b,0,none⟩),.int .u8 (c.toNat:Int)] w fun e w'=>e=.returned (.tuple #[])/\VS b s i 2 i w'/\w.grownBy w' (some b):=by
 have h0:=h.c0;have h1:=h.c1;have HR:=ae h;clear h
 by_cases hlt:i<s.size
 ·rw[lL s i hlt]at hc;have hne:s[i]≠c:=fun e=>hc (by rw[e])
  have hn:((s[i].toNat:Int) == (c.toNat:Int))=false:=by
   simp only[beq_eq_false_iff_ne,ne_eq];intro e;exact hne (UInt8.toNat_inj.1 (by omega))
  have hd:decide ((s.size:Int)<=(i:Int))=false:=by simp;omega
  have hm:((s[i].toNat:Int) != (c.toNat:Int))=true:=by rw[bne,hn];rfl
  clear hc hne;go_enter func164,ntmps164;go_wp2;go_quiet (fail);have e1:(w.drewN nq).cell? ⟨b,1,none⟩=some (.int .i64 (i:Int)):=h1;go_wp2_with (go_at_call 166;refine(vG b s i a 2 i _ (HR.o.drew _)).mono ?_);rintro e w1 ⟨rfl,hr,hg⟩;go_wp2
  (try simp only[Exit.inBlock,Exit.then])
  refine bodyPost_ret (results_none rfl _ _ _) rfl ?_;exact⟨rfl,hr,ai (ay (au w _) _) hg⟩
 ·have hd:decide ((s.size:Int)<=(i:Int))=true:=by simp;omega
  clear hc;go_enter func164,ntmps164;go_wp2;go_quiet (fail);have e1:(w.drewN nq).cell? ⟨b,1,none⟩=some (.int .i64 (i:Int)):=h1;go_wp2_with (go_at_call 166;refine(vG b s i a 2 i _ (HR.o.drew _)).mono ?_);rintro e w1 ⟨rfl,hr,hg⟩;go_wp2
  (try simp only[Exit.inBlock,Exit.then])
  refine bodyPost_ret (results_none rfl _ _ _) rfl ?_;exact⟨rfl,hr,ai (ay (au w _) _) hg⟩
open Go.RowKit
def yY(n:Int)(c:UInt8):Int:=if n<=999999999 then 10*n+((c.toNat:Int)-48) else n
def kC(l:List UInt8):Int:=l.foldl yY 0
theorem VF(T:List UInt8)(m:Nat)(hm:m<T.length):kC (T.take (m+1))=yY (kC (T.take m)) T[m]:=by
 rw[List.take_succ_eq_append_getElem hm];unfold kC;rw[List.foldl_append];rfl
theorem adz(T:List UInt8)(h:T.all aN=true):∀m,m<=T.length->(0<=kC (T.take m)/\kC (T.take m)<=9999999999)/\(bK (T.take m)<=999999999->kC (T.take m)=bK (T.take m))/\(999999999<bK (T.take m)->999999999<kC (T.take m)):=by
 intro m
 induction m with
 | zero=>intro _;exact⟨⟨Int.le_refl 0,by show(0:Int)<=_;omega⟩,fun _=>rfl,fun h=>absurd h (by show ¬(999999999:Int)<0;omega)⟩
 | succ m ih =>
  intro hm;obtain⟨i1,i2,i3⟩:=ih (by omega);have hdg:=zS (List.all_eq_true.1 h T[m] (List.getElem_mem (by omega)));rw[VF T m (by omega),Tt T m (by omega)];have hv0:0<=bK (T.take m):=Gq _ (List.all_eq_true.2 (fun c hc=>List.all_eq_true.1 h c (List.mem_of_mem_take hc)));unfold yY
  by_cases hb:bK (T.take m)<=999999999
  ·have e:=i2 hb;rw[e,if_pos hb];refine⟨⟨by omega,by omega⟩,fun _=>rfl,fun h=>h⟩
  ·have e:=i3 (by omega);rw[if_neg (by omega)];exact⟨i1,fun h=>by omega,fun _=>e⟩
theorem VS.place{b:Nat}{s:ByteArray}{i:Nat}{E:Int}{a:Nat}{w:World}(h:VS b s i E a w):placeOf b w=i:=by unfold placeOf;rw[h.c1];simp
def VG(b:Nat)(s:ByteArray)(i:Nat)(w:World)(e:Ending)(w':World):Prop :=
 ∃(v:Int) (j:Nat) (E:Int) (c:Nat),e=.returned (.int .i64 v)/\VS b s j E c w'/\w.grownBy w' (some b)/\E=(rdNum s.data.toList i).1/\(E=0->v=(rdNum s.data.toList i).2.1/\j=(rdNum s.data.toList i).2.2/\j<=s.size)/\(E≠0->c=(rdNum s.data.toList i).2.2)
theorem adA(b:Nat)(s:ByteArray)(i:Nat)(a:Nat)(w:World)(hi:i<=s.size)(h:VS b s i 0 a w)(hs:s.size<2 ^ 62) :
  Calls prog 163 #[.pointer (some ⟨b,0,none⟩)] w (VG b s i w):=by
 have h1:=h.c1;have HR:=ae h;have hsl:s.data.toList.length=s.size:=by simp
 have hle:i+runN aN s.data.toList i<=s.size:=by have:=tq aN s.data.toList i (by rw[hsl];exact hi);rw[hsl]at this;exact this
 have hln:=tu s.data.toList i (runN aN s.data.toList i) (by rw[hsl];exact hle);have hall:=Gt aN s.data.toList i;obtain⟨k,hk⟩:=zN (runN aN s.data.toList i);have HS:Hd (∀hj:i+k<s.size,aN s[i+k]=false):=by
  show ∀hj:i+k<s.size,aN s[i+k]=false;intro hj;have:=Gp aN s.data.toList i (by rw[hk];simpa using hj);simp only[hk]at this;exact this
 rw[hk]at hle hln hall;obtain⟨T,hT⟩:=zN (aj s.data.toList i k);have NE:Hd (∀m (hm:m<k) (h2:i+m<s.size) (h3:m<T.length),s[i+m]=T[m]):=by
  show ∀m (hm:m<k) (h2:i+m<s.size) (h3:m<T.length),s[i+m]=T[m];intro m hm h2 h3;have e1:T[m]?=s.data.toList[i+m]?:=by rw[<-hT];unfold aj;rw[List.getElem?_take_of_lt hm,List.getElem?_drop]
  rw[lL s (i+m) h2,List.getElem?_eq_getElem h3]at e1;exact(Option.some.inj e1).symm
 rw[hT]at hln hall;have HP:Hd (∀(v:Int) (j:Nat) (E:Int) (c:Nat) (w':World),VS b s j E c w'->w.grownBy w' (some b) →
   (k=0/\E=2/\c=i\/¬k=0/\(1<k/\s.data.toList[i]?=some 48)/\E=2/\c=i\/¬k=0/\¬(1<k/\s.data.toList[i]?=some 48)/\bK T > 999999999/\E=3/\c=i\/¬k=0/\¬(1<k/\s.data.toList[i]?=some 48)/\¬bK T > 999999999/\E=0/\v=bK T/\j=i+k)->VG b s i w (.returned (.int .i64 v)) w'):=by
  intro v j E c w' hv hg ho;refine⟨v,j,E,c,rfl,hv,hg,?_⟩;unfold rdNum;rw[hk,hT]
  rcases ho with⟨o1,rfl,rfl⟩|⟨o1,o2,rfl,rfl⟩|⟨o1,o2,o3,rfl,rfl⟩|⟨o1,o2,o3,rfl,rfl,rfl⟩
  ·rw[if_pos o1];exact⟨rfl,fun h=>absurd h (by decide),fun _=>rfl⟩
  ·rw[if_neg o1,if_pos o2];exact⟨rfl,fun h=>absurd h (by decide),fun _=>rfl⟩
  ·rw[if_neg o1,if_neg o2,if_pos o3];exact⟨rfl,fun h=>absurd h (by decide),fun _=>rfl⟩
  ·rw[if_neg o1,if_neg o2,if_neg o3];exact⟨rfl,fun _=>⟨rfl,rfl,hle⟩,fun h=>absurd rfl h⟩
 have HD:Hd (∀m j (hm:m<k) (hj:j=i+m) (h2:j<s.size),aN s[j]=true):=by
  show ∀m j (hm:m<k) (hj:j=i+m) (h2:j<s.size),aN s[j]=true;intro m j hm hj h2;subst hj;rw[NE.o m hm h2 (by omega)];exact List.all_eq_true.1 hall _ (List.getElem_mem _)
 have VH:Hd (∀m j (hm:m<k) (hj:j=i+m) (h2:j<s.size),kC (T.take (m+1))=yY (kC (T.take m)) s[j]):=by
  show ∀m j (hm:m<k) (hj:j=i+m) (h2:j<s.size),kC (T.take (m+1))=yY (kC (T.take m)) s[j];intro m j hm hj h2;subst hj;rw[NE.o m hm h2 (by omega)];exact VF T m (by omega)
 have HC:Hd (T.length=k/\∀m,m<=k->(0<=kC (T.take m)/\kC (T.take m)<=9999999999)/\(bK (T.take m)<=999999999->kC (T.take m)=bK (T.take m))/\(999999999<bK (T.take m)->999999999<kC (T.take m))):=⟨hln,fun m hm=>adz T hall m (by omega)⟩;have HL:=ae hle;clear hk hT hln hall h hsl hle hi;go_enter func163,ntmps163;go_wp2;go_loopw [4] (fun vn wr=>∃m j:Nat,j=i+m/\m<=k/\vn=.int .i64 (kC (T.take m))/\VS b s j 0 a wr/\w.grownBy wr (some b)) (fun _ wr=>s.size-placeOf b wr)
 case atStart=>exact⟨0,i,rfl,Nat.zero_le _,rfl,HR.o,au _ _⟩
 case round =>
  obtain⟨m,j,hj,hmk,rfl,hrs,hgb⟩:=hrel;have d0:=hrs.c0;have d1:=hrs.c1;have df:=hrs.f1;have dD:=ae hrs;have aH:=ae hgb;have hil:=HL.o;have hcb:=(HC.o.2 m hmk).1;clear hrs hgb h1 HR
  by_cases hlt:m<k
  ·have hjs:j<s.size:=by omega
   have hD:=HD.o m j hlt hj hjs;have hdg:=zS hD;have gq:=ae (VH.o m j hlt hj hjs);have HK:Hd (m<k/\j=i+m/\j<s.size):=⟨hlt,hj,hjs⟩;obtain⟨v,hv⟩:∃v,v=kC (T.take m):=⟨_,rfl⟩;rw[<-hv]at hcb gq;rw[<-hv];clear hv hlt hil hmk hj;have hlt2:(j:Int)<(s.size:Int):=by omega
   have hw:IntKind.i64.wrap ((j:Int)+1)=((j+1:Nat):Int):=by rw[IntKind.wrap_i64];omega
   by_cases hb:v<=999999999
   ·have r1:IntKind.i64.wrap (10*v)=10*v:=by rw[IntKind.wrap_i64];omega
    have r2:IntKind.i64.wrap (10*v+(s[j].toNat:Int))=10*v+(s[j].toNat:Int):=by rw[IntKind.wrap_i64];omega
    have r3:IntKind.i64.wrap (10*v+(s[j].toNat:Int)-48)=10*v+(s[j].toNat:Int)-48:=by rw[IntKind.wrap_i64];omega
    have HN:Hd (10*v+(s[j].toNat:Int)-48=kC (T.take (m+1))):=by show _=_;rw[gq.o];unfold yY;rw[if_pos hb];omega
    go_wp2;go_quiet (first|(go_at_call 122;exact Calls.quiet_of_same (oZ _ _)));go_wp2;have lS:=ae dD.o.place;obtain⟨W,hW⟩:=zN (wr.drewN nq);have e0:W.cell? ⟨b,0,none⟩=some (.string s):=by rw[<-hW];exact d0
    have e1:W.cell? ⟨b,1,none⟩=some (.int .i64 (j:Int)):=by rw[<-hW];exact d1
    have ef:W.frozen? ⟨b,1,none⟩=false:=by rw[<-hW];exact df
    have HW:Hd (VS b s j 0 a W/\w.grownBy W (some b)):=by
     show VS b s j 0 a W/\w.grownBy W (some b);rw[<-hW];exact⟨dD.o.drew _,ay aH.o _⟩
    rw[hW];clear hW d0 d1 df dD aH;go_quiet (fail);go_wp2;go_roundw
    case rel=>exact⟨m+1,j+1,by have:=HK.o;omega,by have:=HK.o;omega,by rw[<-HN.o],(HW.o.1.drew _).set1 (j+1),aS (ay HW.o.2 _) _ _⟩
    case measure =>
     have e2:=((HW.o.1.drew nq).set1 (j+1)).place;rw[lS.o];exact Nat.lt_of_le_of_lt (Nat.le_of_eq (congrArg (s.size - ·) e2)) (by omega)
   ·have HN:Hd (v=kC (T.take (m+1))):=by show _=_;rw[gq.o];unfold yY;rw[if_neg hb]
    go_wp2;go_quiet (first|(go_at_call 122;exact Calls.quiet_of_same (oZ _ _)));go_wp2;go_roundw
    case rel=>exact⟨m+1,j+1,by have:=HK.o;omega,by have:=HK.o;omega,by rw[<-HN.o],(dD.o.drew _).set1 (j+1),aS (ay aH.o _) _ _⟩
    case measure =>
     have e1:=dD.o.place;have e2:=((dD.o.drew nq).set1 (j+1)).place;rw[e1];exact Nat.lt_of_le_of_lt (Nat.le_of_eq (congrArg (s.size - ·) e2)) (by omega)
  ·have ajy:m=k:=by omega
   subst m;obtain⟨v,hv⟩:∃v,v=kC (T.take k):=⟨_,rfl⟩;have VI:=List.take_of_length_le (by rw[HC.o.1];exact Nat.le_refl _);have NF:Hd ((bK T<=999999999->v=bK T)/\(999999999<bK T->999999999<v)):=by
    have:=(HC.o.2 k hmk).2;rw[VI]at this hv;show(bK T<=999999999->v=bK T)/\(999999999<bK T->999999999<v);rw[hv];exact this
   have hv0:k=0->v=0:=fun h=>by rw[hv,h];rfl
   rw[<-hv]at hcb;rw[<-hv];have Iq:Hd (j=i+k/\i+k<=s.size):=⟨hj,hil⟩;clear hv VI HD VH HC NE hlt hmk hil;have hen:(∃hjs:j<s.size,aN s[j]=false)\/(¬j<s.size/\decide ((j:Int)<(s.size:Int))=false):=by
    by_cases hjs:j<s.size
    ·exact .inl ⟨hjs,by subst hj;exact HS.o hjs⟩
    ·exact .inr ⟨hjs,by simp;omega⟩
   clear HS HL hj
   rcases hen with⟨hjs,hD⟩|⟨hjn,hd2⟩
   all_goals (
    first
     | (have hlt2:(j:Int)<(s.size:Int):=by omega
        go_wp2;go_quiet (first|(go_at_call 122;exact Calls.quiet_of_same (oZ _ _))))
     | (go_wp2
        go_quiet (fail))
    obtain⟨W,hW⟩:=zN (wr.drewN nq);have e0:W.cell? ⟨b,0,none⟩=some (.string s):=by rw[<-hW];exact d0
    have e1:W.cell? ⟨b,1,none⟩=some (.int .i64 (j:Int)):=by rw[<-hW];exact d1
    have ef:W.frozen? ⟨b,1,none⟩=false:=by rw[<-hW];exact df
    have HW:Hd (VS b s j 0 a W/\w.grownBy W (some b)):=by
     show VS b s j 0 a W/\w.grownBy W (some b);rw[<-hW];exact⟨dD.o.drew _,ay aH.o _⟩
    rw[hW];clear hW d0 d1 df dD aH;have hj:=Iq.o.1;have hil:=Iq.o.2;have q2:IntKind.i64.wrap ((j:Int)-(i:Int))=(k:Int):=by rw[IntKind.wrap_i64];omega
    by_cases hk0:k=0
    ·have q1:((j:Int) == (i:Int))=true:=by simp;omega
     have q5:decide ((999999999:Int)<v)=false:=by simp;have:=hv0 hk0;omega
     have HO:=ae hk0;clear hk0 hv0 hj hil q2;go_wp2_with (go_at_call 166;refine(vG b s j a 2 i _ HW.o.1).mono ?_);rintro e w1 ⟨rfl,hr,hg⟩;go_wp2;go_ret;exact HP.o _ j 2 i _ hr (ai HW.o.2 hg) (Or.inl ⟨HO.o,rfl,rfl⟩)
    ·have q1:((j:Int) == (i:Int))=false:=by simp;omega
     have his:i<s.size:=by omega
     have hgd:=lL s i his;have HJ:=ae hj;have hz:(decide ((1:Int)<(k:Int))=true/\((s[i].toNat:Int) == 48)=true/\1<k/\s.data.toList[i]?=some 48)\/((decide ((1:Int)<(k:Int))=true/\((s[i].toNat:Int) == 48)=false)/\¬(1<k/\s.data.toList[i]?=some 48))\/(decide ((1:Int)<(k:Int))=false/\¬(1<k/\s.data.toList[i]?=some 48)):=by
      by_cases h1k:1<k
      ·have q3:decide ((1:Int)<(k:Int))=true:=by simp;omega
       cases q4:((s[i].toNat:Int) == 48) with
       | true=>exact .inl ⟨q3,rfl,h1k,by rw[hgd];congr 1;exact UInt8.toNat_inj.1 (by simp at q4;show s[i].toNat=48;omega)⟩
       | false=>exact .inr (.inl ⟨⟨q3,rfl⟩,fun h=>by
         have:=h.2;rw[hgd]at this;have e:=Option.some.inj this;rw[e]at q4;simp at q4⟩)
      ·exact .inr (.inr ⟨by simp;omega,fun h=>h1k h.1⟩)
     rcases hz with⟨q3,q4,ho⟩|⟨⟨q3,q4⟩,ho⟩|⟨q3,ho⟩
     ·have HO:Hd (¬k=0/\(1<k/\s.data.toList[i]?=some 48)):=⟨hk0,ho⟩;clear hgd hk0 hv0 hj hil ho
      cases q5:decide ((999999999:Int)<v) with
      | true =>
       go_wp2_with (go_at_call 166;refine(vG b s j a 2 i _ HW.o.1).mono ?_);rintro e w1 ⟨rfl,hr,hg⟩;go_wp2_with (go_at_call 166;refine(adw b s j 2 (by decide) i 3 i _ hr).mono ?_);rintro e w2 ⟨rfl,hr2,hg2⟩;go_wp2;go_ret;exact HP.o _ j 2 i _ hr2 (ai (ai HW.o.2 hg) hg2) (Or.inr (Or.inl ⟨HO.o.1,HO.o.2,rfl,rfl⟩))
      | false =>
       go_wp2_with (go_at_call 166;refine(vG b s j a 2 i _ HW.o.1).mono ?_);rintro e w1 ⟨rfl,hr,hg⟩;go_wp2;go_ret;exact HP.o _ j 2 i _ hr (ai HW.o.2 hg) (Or.inr (Or.inl ⟨HO.o.1,HO.o.2,rfl,rfl⟩))
     all_goals (
      have HO:Hd (¬k=0/\¬(1<k/\s.data.toList[i]?=some 48)):=⟨hk0,ho⟩;clear hgd hk0 hv0 ho hj hil
      cases q5:decide ((999999999:Int)<v) with
      | true =>
       have HB:Hd (bK T > 999999999):=by
        show bK T > 999999999;have h1:=of_decide_eq_true q5;refine Int.not_le.1 (fun h2=>?_);have:=NF.o.1 h2;omega
       go_wp2_with (go_at_call 166;refine(vG b s j a 3 i _ HW.o.1).mono ?_);rintro e w1 ⟨rfl,hr,hg⟩;go_wp2;go_ret;exact HP.o _ j 3 i _ hr (ai HW.o.2 hg) (Or.inr (Or.inr (Or.inl ⟨HO.o.1,HO.o.2,HB.o,rfl,rfl⟩)))
      | false =>
       have HB:Hd (¬bK T > 999999999):=by
        show ¬bK T > 999999999;have h1:=of_decide_eq_false q5;exact fun h2=>h1 (NF.o.2 h2)
       have HE:=ae (NF.o.1 (Int.not_lt.1 HB.o));go_wp2;go_ret;exact HP.o _ j 0 a _ HW.o.1 HW.o.2 (Or.inr (Or.inr (Or.inr ⟨HO.o.1,HO.o.2,HB.o,rfl,HE.o,HJ.o⟩)))))
end Go.Proofs.YtnnbgjaphfhibaaGreatDoor
