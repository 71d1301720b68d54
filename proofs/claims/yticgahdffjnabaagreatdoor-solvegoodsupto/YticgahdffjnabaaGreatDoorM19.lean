import Derived.Test.YticgahdffjnabaaGreatDoorM14
import Derived.Test.YticgahdffjnabaaGreatDoorM04
set_option linter.unusedVariables false
set_option maxHeartbeats 3200000
namespace Go.Proofs.YticgahdffjnabaaGreatDoor
open Go.RowKit
def VerPost (b:Nat) (s:ByteArray) (w:World) (e:Ending) (w':World):Prop :=
 ∃(x1 x2 x3:Int) (x4 x5:List UInt8) (E:Int) (j:Nat),e=.returned (.tuple #[.agg #[.int .i64 x1,.int .i64 x2,.int .i64 x3,.string ⟨x4.toArray⟩,.string ⟨x5.toArray⟩],.int .i64 E]) ∧
  RS b s j w'/\w.grownBy w' (some b)/\E=(rdVer s.data.toList).1/\(E=0->(rdVer s.data.toList).2.2=⟨x1,x2,x3,x4,x5⟩)/\(E ≠ 0->(rdVer s.data.toList).2.1=j)
theorem RSalloc {b:Nat} {s:ByteArray} {i:Nat} {w:World} (h:RS b s i w) (o1 o2:Obj):RS b s i ((w.alloc o1).alloc o2):=h.grow (gb_alloc (gb_alloc (gb_refl w none) o1) o2)
theorem row2 (w:World) (o1 o2:Obj):((w.alloc o1).alloc o2).heap[w.heap.size+1]?=some o2:=by
 have:=heap_alloc_new (w.alloc o1) o2;simpa using this
theorem put5_rs {b A:Nat} {s:ByteArray} {j:Nat} {w:World} (h:RS b s j w) (hn:b ≠ A) (y1 y2 y3:Int) (x4 x5:ByteArray):RS b s j (put5 w A y1 y2 y3 x4 x5):=((((h.other hn _ _).other hn _ _).other hn _ _).other hn _ _).other hn _ _
theorem ver_tail (l:List UInt8):rdVer l=if (rdNums l).1=0 then (if (tailP l (rdNums l).2.1).1=0 then (if (tailP l (rdNums l).2.1).2.1 < l.length then (2,(tailP l (rdNums l).2.1).2.1,zeroV) else (0,0,⟨(rdNums l).2.2.1,(rdNums l).2.2.2.1,(rdNums l).2.2.2.2,(tailP l (rdNums l).2.1).2.2.1,(tailP l (rdNums l).2.1).2.2.2⟩)) else ((tailP l (rdNums l).2.1).1,(tailP l (rdNums l).2.1).2.1,zeroV)) else ((rdNums l).1,(rdNums l).2.1,zeroV):=by
 unfold rdVer tailP
 by_cases h1:(rdNums l).1=0
 ·rw [if_pos h1,if_pos h1]
  by_cases h2:(optP 45 true l (rdNums l).2.1).1=0
  ·simp only [if_pos h2]
   by_cases h3:(optP 43 false l (optP 45 true l (rdNums l).2.1).2.1).1=0
   ·simp only [if_pos h3,if_true]
   ·simp only [if_neg h3]
  ·simp only [if_neg h2]
 ·rw [if_neg h1,if_neg h1]
set_option maxRecDepth 100000 in
theorem version_any (b:Nat) (s:ByteArray) (w:World) (h:RS b s 0 w) (hs:s.size<=100) :
  Calls Tryz.prog 36 #[.pointer (some ⟨b,0,none⟩)] w (VerPost b s w):=by
 have HB:Hd (b < w.heap.size):=by obtain ⟨t,h⟩:=h;exact (hqL h)
 have HI:Hd (RS b s 0 w):=h;have CN:Hd (∀v w,RS b s 0 w->VB v 0 0 0 w->b ≠ v->Calls Tryz.prog 49 #[.pointer (some ⟨b,0,none⟩),.pointer (some ⟨v,0,none⟩)] w fun e w'=>e=.returned (.int .i64 (rdNums s.data.toList).1)/\RS b s (rdNums s.data.toList).2.1 w'/\(∃y1 y2 y3,VB v y1 y2 y3 w'/\((rdNums s.data.toList).1=0->(y1,y2,y3)=(rdNums s.data.toList).2.2))/\G2 b v w w'):=fun v w h1 h2 h3=>numbers_any b v s w h1 h2 h3 (by omega)
 have CTl:Hd (∀i w,i<=s.size->RS b s i w->Calls Tryz.prog 50 #[.pointer (some ⟨b,0,none⟩)] w fun e w'=>e=.returned (.tuple #[.string ⟨(tailP s.data.toList i).2.2.1.toArray⟩,.string ⟨(tailP s.data.toList i).2.2.2.toArray⟩,.int .i64 (tailP s.data.toList i).1])/\RS b s (tailP s.data.toList i).2.1 w'/\w.grownBy w' (some b)):=fun i w hi h=>tail_any b s i w hi h (by omega)
 have HLL:Hd (s.data.toList.length=s.size):=by show s.data.toList.length=s.size;simp
 clear h hs;have hver:=ver_tail s.data.toList;obtain ⟨E0,J0,X1,X2,X3,hN⟩:∃E J A B C,rdNums s.data.toList=(E,J,A,B,C):=⟨_,_,_,_,_,rfl⟩;obtain ⟨E1,J1,P1,B1,hT⟩:∃E J P B,tailP s.data.toList J0=(E,J,P,B):=⟨_,_,_,_,rfl⟩;rw [hN] at CN hver;simp only at CN hver;rw [hT] at hver;simp only at hver;have HJ0:Hd (E0=0->J0<=s.size):=fun h0=>by
  have:=(nums_take s.data.toList (by rw [hN];exact h0)).1;rw [hN,HLL.o] at this;exact this
 have HJ1:Hd (J0<=s.size->E1=0->J1<=s.size):=fun hj h0=>by
  rw [<-HLL.o] at hj ⊢;unfold tailP at hT
  by_cases h2:(optP 45 true s.data.toList J0).1=0
  ·have l1:=opt_le hj h2;rw [if_pos h2] at hT
   by_cases h3:(optP 43 false s.data.toList (optP 45 true s.data.toList J0).2.1).1=0
   ·rw [if_pos h3] at hT;have l2:=opt_le l1 h3;have e:=congrArg (·.2.1) hT;simp only at e;rw [<-e];exact l2
   ·rw [if_neg h3] at hT;exact absurd ((congrArg Prod.fst hT).trans h0) h3
  ·rw [if_neg h2] at hT;exact absurd ((congrArg Prod.fst hT).trans h0) h2
 have CT0:Hd (∀w,J0<=s.size->RS b s J0 w->Calls Tryz.prog 50 #[.pointer (some ⟨b,0,none⟩)] w fun e w'=>e=.returned (.tuple #[.string ⟨P1.toArray⟩,.string ⟨B1.toArray⟩,.int .i64 E1])/\RS b s J1 w'/\w.grownBy w' (some b)):=fun w hj h=>by
  have:=CTl.o J0 w hj h;rw [hT] at this;exact this
 have HV:Hd (rdVer s.data.toList=if E0=0 then (if E1=0 then (if J1 < s.data.toList.length then (2,J1,zeroV) else (0,0,⟨X1,X2,X3,P1,B1⟩)) else (E1,J1,zeroV)) else (E0,J0,zeroV)):=hver;clear hN hT hver CTl;go_enter Tryz.func36,Tryz.ntmps36;go_wp2_with (go_at_call 49;refine (CN.o _ _ (RSalloc HI.o _ _) (row2 w _ _) (by have:=HB.o;omega)).mono ?_);rintro e w1 ⟨rfl,hr1,⟨y1,y2,y3,hvb,hy⟩,hg1⟩;obtain ⟨A,hA⟩:=nm (w.heap.size);have HXA:Hd (VX A 0 0 0 ⟨#[]⟩ ⟨#[]⟩ w1):=by
  show w1.heap[A]?=_;rw [<-hA,hg1.block w.heap.size (by simp;omega) (by have:=HB.o;omega) (by omega),Lib.alloc_old _ _ _ (by simp)];exact heap_alloc_new w _
 have HG:Hd (w.grownBy w1 (some b)):=by
  refine ⟨hg1.os,hg1.tape,hg1.output,by have:=hg1.size;simp at this;omega,fun k hk hn=>?_⟩;rw [hg1.block k (by simp;omega) (by simpa using hn) (by omega),Lib.alloc_old _ _ _ (by simp;omega),Lib.alloc_old _ _ _ hk]
 have HR1:Hd (RS b s J0 w1):=hr1;have HY:Hd (E0=0->(y1,y2,y3)=(X1,X2,X3)):=hy;have HX:Hd (VX (A+1) y1 y2 y3 ⟨#[]⟩ ⟨#[]⟩ w1):=by rw [<-hA];exact hvb
 have HAb:Hd (b < A):=by rw [<-hA];exact HB.o
 have HWA:Hd (w.heap.size<=A):=Nat.le_of_eq hA;rw [hA];clear hA hr1 hvb hy hg1;have END:Hd (∀(W:World) (j:Nat) (z1 z2 z3:Int) (x4 x5:List UInt8) (E:Int),RS b s j W->VX A 0 0 0 ⟨#[]⟩ ⟨#[]⟩ W->w.grownBy W (some b)->E=(rdVer s.data.toList).1->(E=0->(rdVer s.data.toList).2.2=⟨z1,z2,z3,x4,x5⟩)->(E ≠ 0->(rdVer s.data.toList).2.1=j) →
   VX A z1 z2 z3 ⟨x4.toArray⟩ ⟨x5.toArray⟩ (put5 W A z1 z2 z3 ⟨x4.toArray⟩ ⟨x5.toArray⟩)/\VerPost b s w (.returned (.tuple #[.agg #[.int .i64 z1,.int .i64 z2,.int .i64 z3,.string ⟨x4.toArray⟩,.string ⟨x5.toArray⟩],.int .i64 E])) (put5 W A z1 z2 z3 ⟨x4.toArray⟩ ⟨x5.toArray⟩)):=by
  intro W j z1 z2 z3 x4 x5 E h1 h2 h3 h4 h5 h6;exact ⟨put5_row h2 _ _ _ _ _,z1,z2,z3,x4,x5,E,j,rfl,put5_rs h1 (by have:=HAb.o;omega) _ _ _ _ _,put5_gb h3 HWA.o _ _ _ _ _,h4,h5,h6⟩
 cases hz:(E0 == 0) with
 | false =>
  obtain ⟨v0,v1,v2,v3,v4⟩:=HX.o.cells;obtain ⟨ca0,ca1,ca2,ca3,ca4⟩:=HXA.o.cells;have ra:=HXA.o.f;have HE:Hd (E0=(rdVer s.data.toList).1/\(rdVer s.data.toList).2.1=J0/\E0 ≠ 0):=by
   have h0:¬ E0=0:=by simpa using hz
   refine ⟨?_,?_,h0⟩ <;> (rw [HV.o,if_neg h0])
  go_wp2;obtain ⟨hrow,hpost⟩:=END.o w1 J0 0 0 0 [] [] E0 HR1.o HXA.o HG.o HE.o.1 (fun h=>absurd h HE.o.2.2) (fun _=>HE.o.2.1);exact bodyPost_ret (res_row_tmp (p:=2) (u:=3) rfl _ _ A _ _ (0,0) _ rfl hrow Tryz.underlying69 rfl (by kernel_rfl)) rfl hpost
 | true =>
  have hE:E0=0:=by simpa using hz
  subst hE;clear hz;have hj0:=HJ0.o rfl;have HV2:Hd (rdVer s.data.toList=if E1=0 then (if J1 < s.data.toList.length then (2,J1,zeroV) else (0,0,⟨X1,X2,X3,P1,B1⟩)) else (E1,J1,zeroV)):=by
   show rdVer s.data.toList=_;rw [HV.o,if_pos rfl]
  have HY2:Hd (y1=X1/\y2=X2/\y3=X3):=by
   have hy:=HY.o rfl;simp only [Prod.mk.injEq] at hy;exact hy
  clear HV HY;have CTw:Hd (Calls Tryz.prog 50 #[.pointer (some ⟨b,0,none⟩)] w1 fun e w'=>e=.returned (.tuple #[.string ⟨P1.toArray⟩,.string ⟨B1.toArray⟩,.int .i64 E1])/\RS b s J1 w'/\w1.grownBy w' (some b)):=CT0.o w1 hj0 HR1.o;have HJs:Hd (E1=0->J1<=s.size):=HJ1.o hj0;clear hj0;go_wp2_with (first | (go_at_call 50;refine CTw.o.mono ?_));rintro e u1 ⟨rfl,hr,hg⟩;have HRu:Hd (RS b s J1 u1):=hr;have HXu:Hd (VX (A+1) y1 y2 y3 ⟨#[]⟩ ⟨#[]⟩ u1):=HX.o.grow hg (by have:=HAb.o;omega);have HXa:Hd (VX A 0 0 0 ⟨#[]⟩ ⟨#[]⟩ u1):=HXA.o.grow hg (by have:=HAb.o;omega);have HGu:Hd (w.grownBy u1 (some b)):=gb_trans HG.o hg;clear hr hg;obtain ⟨v0,v1,v2,v3,v4⟩:=HXu.o.cells;have rv:=HXu.o.f;obtain ⟨ca0,ca1,ca2,ca3,ca4⟩:=HXa.o.cells;have ra:=HXa.o.f;obtain ⟨U,hU⟩:=nm ((u1.setCell ⟨A+1,3,none⟩ (.string ⟨P1.toArray⟩)).setCell ⟨A+1,4,none⟩ (.string ⟨B1.toArray⟩));have HRU:Hd (RS b s J1 U):=by
   show RS b s J1 U;rw [<-hU];exact (HRu.o.other (by have:=HAb.o;omega) _ _).other (by have:=HAb.o;omega) _ _
  have HXU:Hd (VX (A+1) y1 y2 y3 ⟨P1.toArray⟩ ⟨B1.toArray⟩ U):=by
   show VX _ _ _ _ _ _ U;rw [<-hU];exact (HXu.o.set3 _).set4 _
  have HAU:Hd (VX A 0 0 0 ⟨#[]⟩ ⟨#[]⟩ U):=by
   show VX _ _ _ _ _ _ U;rw [<-hU];exact (HXa.o.other (by omega) _ _).other (by omega) _ _
  have HGU:Hd (w.grownBy U (some b)):=by
   show w.grownBy U (some b);have:=HWA.o;rw [<-hU];exact gb_new (gb_new HGu.o (by omega) _ _) (by omega) _ _
  have CE:Hd (Calls Tryz.prog 51 #[.pointer (some ⟨b,0,none⟩)] ((u1.setCell ⟨A+1,3,none⟩ (.string ⟨P1.toArray⟩)).setCell ⟨A+1,4,none⟩ (.string ⟨B1.toArray⟩)) fun e w'=>e=.returned (.bool (decide (J1=s.size)))/\∃n,w'=U.drewN n):=by
   show Calls _ _ _ _ _;rw [hU];exact ended_any b s J1 U HRU.o
  have HU:Hd ((u1.setCell ⟨A+1,3,none⟩ (.string ⟨P1.toArray⟩)).setCell ⟨A+1,4,none⟩ (.string ⟨B1.toArray⟩)=U):=hU;clear hU
  cases hz1:(E1 == 0) with
  | false =>
   have HE:Hd (E1=(rdVer s.data.toList).1/\(rdVer s.data.toList).2.1=J1/\E1 ≠ 0):=by
    have h0:¬ E1=0:=by simpa using hz1
    refine ⟨?_,?_,h0⟩ <;> (rw [HV2.o,if_neg h0])
   go_wp2;obtain ⟨hrow,hpost⟩:=END.o U J1 0 0 0 [] [] E1 HRU.o HAU.o HGU.o HE.o.1 (fun h=>absurd h HE.o.2.2) (fun _=>HE.o.2.1);rw [HU.o];exact bodyPost_ret (res_row_tmp (p:=2) (u:=3) rfl _ _ A _ _ (0,0) _ rfl hrow Tryz.underlying69 rfl (by kernel_rfl)) rfl hpost
  | true =>
   have h0:E1=0:=by simpa using hz1
   subst h0;clear hz1;have hj:=HJs.o rfl
   cases hJ:decide (J1=s.size) with
   | false =>
    rw [hJ] at CE;have HE:Hd ((2:Int)=(rdVer s.data.toList).1/\(rdVer s.data.toList).2.1=J1):=by
     have h1:J1 < s.data.toList.length:=by rw [HLL.o];have:=of_decide_eq_false hJ;omega
     refine ⟨?_,?_⟩ <;> (rw [HV2.o,if_pos rfl,if_pos h1])
    clear hj hJ;go_wp2_with (first | (go_at_call 51;refine CE.o.mono ?_));rintro e u2 ⟨rfl,n,hn⟩;have HR2:Hd (RS b s J1 u2):=by show RS b s J1 u2;rw [hn];exact HRU.o.drew n
    have HA2:Hd (VX A 0 0 0 ⟨#[]⟩ ⟨#[]⟩ u2):=by show VX _ _ _ _ _ _ u2;rw [hn];exact HAU.o
    have HG2:Hd (w.grownBy u2 (some b)):=by show w.grownBy u2 (some b);rw [hn];exact gb_drew HGU.o n
    clear hn v0 v1 v2 v3 v4 rv ca0 ca1 ca2 ca3 ca4 ra;obtain ⟨ca0,ca1,ca2,ca3,ca4⟩:=HA2.o.cells;have ra:=HA2.o.f;go_wp2;obtain ⟨hrow,hpost⟩:=END.o u2 J1 0 0 0 [] [] 2 HR2.o HA2.o HG2.o HE.o.1 (fun h=>absurd h (by decide)) (fun _=>HE.o.2);exact bodyPost_ret (res_row_tmp (p:=2) (u:=3) rfl _ _ A _ _ (0,0) _ rfl hrow Tryz.underlying69 rfl (by kernel_rfl)) rfl hpost
   | true =>
    rw [hJ] at CE;have HE:Hd ((0:Int)=(rdVer s.data.toList).1/\(rdVer s.data.toList).2.2=⟨y1,y2,y3,P1,B1⟩):=by
     have h1:¬ J1 < s.data.toList.length:=by rw [HLL.o];have:=of_decide_eq_true hJ;omega
     obtain ⟨e1,e2,e3⟩:=HY2.o;refine ⟨?_,?_⟩ <;> (rw [HV2.o,if_pos rfl,if_neg h1])
     rw [e1,e2,e3]
    clear hj hJ;go_wp2_with (first | (go_at_call 51;refine CE.o.mono ?_));rintro e u2 ⟨rfl,n,hn⟩;have HR2:Hd (RS b s J1 u2):=by show RS b s J1 u2;rw [hn];exact HRU.o.drew n
    have HA2:Hd (VX A 0 0 0 ⟨#[]⟩ ⟨#[]⟩ u2):=by show VX _ _ _ _ _ _ u2;rw [hn];exact HAU.o
    have HX2:Hd (VX (A+1) y1 y2 y3 ⟨P1.toArray⟩ ⟨B1.toArray⟩ u2):=by show VX _ _ _ _ _ _ u2;rw [hn];exact HXU.o
    have HG2:Hd (w.grownBy u2 (some b)):=by show w.grownBy u2 (some b);rw [hn];exact gb_drew HGU.o n
    clear hn v0 v1 v2 v3 v4 rv ca0 ca1 ca2 ca3 ca4 ra;obtain ⟨ca0,ca1,ca2,ca3,ca4⟩:=HA2.o.cells;have ra:=HA2.o.f;obtain ⟨v0,v1,v2,v3,v4⟩:=HX2.o.cells;go_wp2;obtain ⟨hrow,hpost⟩:=END.o u2 J1 y1 y2 y3 P1 B1 0 HR2.o HA2.o HG2.o HE.o.1 (fun _=>HE.o.2) (fun h=>absurd rfl h);exact bodyPost_ret (res_row_tmp (p:=2) (u:=3) rfl _ _ A _ _ (0,0) _ rfl hrow Tryz.underlying69 rfl (by kernel_rfl)) rfl hpost
end Go.Proofs.YticgahdffjnabaaGreatDoor
