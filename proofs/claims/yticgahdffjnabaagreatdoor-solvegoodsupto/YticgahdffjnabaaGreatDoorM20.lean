import Derived.Test.YticgahdffjnabaaGreatDoorM15
import Derived.Test.YticgahdffjnabaaGreatDoorM18
import Derived.Test.YticgahdffjnabaaGreatDoorM19
set_option linter.unusedVariables false
set_option maxHeartbeats 3200000
namespace Go.Proofs.YticgahdffjnabaaGreatDoor
open Go.RowKit
theorem PB.f {A:Nat} {a b c:Int} {P:ByteArray} {n:Int} {w:World} (h:PB A a b c P n w) (o:Nat):w.frozen? ⟨A,o,none⟩=false:=Lib.frozen_of_heap h o
theorem PB.growb {A:Nat} {a b c:Int} {P:ByteArray} {n:Int} {w w':World} {q:Nat} (h:PB A a b c P n w) (hg:w.grownBy w' (some q)) (hn:A ≠ q):PB A a b c P n w':=by
 unfold PB at h ⊢;rw [hg.block A ((hqL h)) (by simpa using hn)];exact h
theorem PB.other {A V:Nat} {a b c:Int} {P:ByteArray} {n:Int} {w:World} (h:PB A a b c P n w) (hn:A ≠ V) (o:Nat) (x:Value):PB A a b c P n (w.setCell ⟨V,o,none⟩ x):=by
 unfold PB at h ⊢;rw [heap_setCell_other w _ A x (by simpa using hn)];exact h
theorem PB.set0 {A:Nat} {a b c:Int} {P:ByteArray} {n:Int} {w:World} (h:PB A a b c P n w) (y:Int):PB A y b c P n (w.setCell ⟨A,0,none⟩ (.int .i64 y)):=by
 unfold PB at h ⊢;simp [World.setCell,Array.getElem?_modify,h]
theorem PB.set1 {A:Nat} {a b c:Int} {P:ByteArray} {n:Int} {w:World} (h:PB A a b c P n w) (y:Int):PB A a y c P n (w.setCell ⟨A,1,none⟩ (.int .i64 y)):=by
 unfold PB at h ⊢;simp [World.setCell,Array.getElem?_modify,h]
theorem PB.set2 {A:Nat} {a b c:Int} {P:ByteArray} {n:Int} {w:World} (h:PB A a b c P n w) (y:Int):PB A a b y P n (w.setCell ⟨A,2,none⟩ (.int .i64 y)):=by
 unfold PB at h ⊢;simp [World.setCell,Array.getElem?_modify,h]
theorem PB.set3 {A:Nat} {a b c:Int} {P:ByteArray} {n:Int} {w:World} (h:PB A a b c P n w) (y:ByteArray):PB A a b c y n (w.setCell ⟨A,3,none⟩ (.string y)):=by
 unfold PB at h ⊢;simp [World.setCell,Array.getElem?_modify,h]
theorem PB.set5 {A:Nat} {a b c:Int} {P:ByteArray} {n:Int} {w:World} (h:PB A a b c P n w) (y:Int):PB A a b c P y (w.setCell ⟨A,5,none⟩ (.int .i64 y)):=by
 unfold PB at h ⊢;simp [World.setCell,Array.getElem?_modify,h]
def put6 (w:World) (A:Nat) (y1 y2 y3:Int) (x4:ByteArray) (n:Int):World:=(((((w.setCell ⟨A,0,none⟩ (.int .i64 y1)).setCell ⟨A,1,none⟩ (.int .i64 y2)).setCell ⟨A,2,none⟩ (.int .i64 y3)).setCell ⟨A,3,none⟩ (.string x4)).setCell ⟨A,4,none⟩ (.string ⟨#[]⟩)).setCell ⟨A,5,none⟩ (.int .i64 n)
theorem put6_row {w:World} {A:Nat} {z1 z2 z3:Int} {z4:ByteArray} {m:Int} (h:PB A z1 z2 z3 z4 m w) (y1 y2 y3:Int) (x4:ByteArray) (n:Int):PB A y1 y2 y3 x4 n (put6 w A y1 y2 y3 x4 n):=by
 unfold PB at h ⊢;simp [put6,World.setCell,Array.getElem?_modify,h]
theorem put6_rs {b A:Nat} {s:ByteArray} {j:Nat} {w:World} (h:RS b s j w) (hn:b ≠ A) (y1 y2 y3:Int) (x4:ByteArray) (n:Int):RS b s j (put6 w A y1 y2 y3 x4 n):=(((((h.other hn _ _).other hn _ _).other hn _ _).other hn _ _).other hn _ _).other hn _ _
theorem put6_gb {b A:Nat} {w W:World} (h:w.grownBy W (some b)) (hA:w.heap.size<=A) (y1 y2 y3:Int) (x4:ByteArray) (n:Int):w.grownBy (put6 W A y1 y2 y3 x4 n) (some b):=gb_new (gb_new (gb_new (gb_new (gb_new (gb_new h hA _ _) hA _ _) hA _ _) hA _ _) hA _ _) hA _ _
def paAgg (x1 x2 x3:Int) (P:ByteArray) (n:Int):Value:=.agg #[.int .i64 x1,.int .i64 x2,.int .i64 x3,.string P,.string ⟨#[]⟩,.int .i64 n]
def PaPost (b:Nat) (s:ByteArray) (R:Int × Nat × Pa) (w:World) (e:Ending) (w':World):Prop :=
 ∃(x1 x2 x3:Int) (P:ByteArray) (n:Int),e=.returned (.tuple #[.agg #[.int .i64 x1,.int .i64 x2,.int .i64 x3,.string P,.string ⟨#[]⟩,.int .i64 n],.int .i64 R.1])/\RS b s R.2.1 w'/\w.grownBy w' (some b)/\(R.1=0->paAgg x1 x2 x3 P n=paVal R.2.2)
set_option maxRecDepth 100000 in
theorem partial_any (b:Nat) (s:ByteArray) (i:Nat) (w:World) (hi:i<=s.size) (h:RS b s i w) (hs:s.size<=281474976710656) :
  Calls Tryz.prog 115 #[.pointer (some ⟨b,0,none⟩)] w (PaPost b s (rdPa s.data.toList i) w):=by
 obtain ⟨l,hl⟩:∃l,l=s.data.toList:=⟨_,rfl⟩;have hll:l.length=s.size:=by rw [hl];simp
 have HLL:Hd (l.length=s.size):=hll;obtain ⟨R,hR⟩:=nm (rdPa l i);rw [<-hl,hR];have HR:Hd (R=if wildAt l i=true then (0,i+1,pa0) else if (rdNum l i).1=0 then pa1 l (rdNum l i).2.2 (rdNum l i).2.1 else ((rdNum l i).1,(rdNum l i).2.2,pa0)):=hR.symm;have CN:Hd (∀i w,i<=s.size->RS b s i w->Calls Tryz.prog 67 #[.pointer (some ⟨b,0,none⟩)] w fun e w'=>e=.returned (.tuple #[.int .i64 (rdNum l i).2.1,.int .i64 (rdNum l i).1])/\RS b s (rdNum l i).2.2 w'/\w.grownBy w' (some b)):=fun i w hi h=>by rw [hl];exact num_any b s i w hi h (by omega)
 have TY:Hd (∀i w,l[i]?=some 46->RS b s i w->Calls Tryz.prog 66 #[.pointer (some ⟨b,0,none⟩),.string ⟨#[46]⟩] w fun e w'=>e=.returned (.bool true)/\RS b s (i+1) w'/\w.grownBy w' (some b)):=fun i w hc h=>take_yes b s i 46 w (by rw [<-hl];exact hc) h (by omega)
 have TN:Hd (∀i w,i<=s.size->¬ l[i]?=some 46->RS b s i w->Calls Tryz.prog 66 #[.pointer (some ⟨b,0,none⟩),.string ⟨#[46]⟩] w fun e w'=>e=.returned (.bool false)/\RS b s i w'/\w.grownBy w' (some b)):=fun i w hi hc h=>take_no b s i 46 w hi (by rw [<-hl];exact hc) h (by omega)
 have CW:Hd (∀i w,i<=s.size->RS b s i w->Calls Tryz.prog 134 #[.pointer (some ⟨b,0,none⟩)] w fun e w'=>e=.returned (.bool (wildAt l i))/\RS b s (if wildAt l i=true then i+1 else i) w'/\w.grownBy w' (some b)):=fun i w hi h=>by rw [hl];exact wild_any b s i w hi h (by omega)
 have CT:Hd (∀i w,i<=s.size->RS b s i w->Calls Tryz.prog 50 #[.pointer (some ⟨b,0,none⟩)] w fun e w'=>e=.returned (.tuple #[.string ⟨(tailP l i).2.2.1.toArray⟩,.string ⟨(tailP l i).2.2.2.toArray⟩,.int .i64 (tailP l i).1])/\RS b s (tailP l i).2.1 w'/\w.grownBy w' (some b)):=fun i w hi h=>by rw [hl];exact tail_any b s i w hi h hs
 have CL:Hd (∀w,Calls Tryz.prog 92 #[] w fun e w'=>e=.returned (.agg #[.int .i64 0,.int .i64 0,.int .i64 0,.string ⟨#[48]⟩,.string ⟨#[]⟩])/\w.grownBy w' none):=low_any;have HNL:Hd (∀i,i<=s.size->(rdNum l i).2.2<=s.size):=fun i hi=>by have:=num_le l i (by rw [hll];exact hi);rw [hll] at this;exact this
 have HDL:Hd (∀i,l[i]?=some 46->i+1<=s.size):=fun i hc=>by have:=dot_lt hc;rw [hll] at this;exact this
 have HI:Hd (RS b s i w):=h;have HIi:Hd (i<=s.size):=hi;have HBb:Hd (b < w.heap.size):=by obtain ⟨t,h⟩:=h;exact (hqL h)
 clear hl hll hR h hs hi;go_enter Tryz.func115,Tryz.ntmps115;go_wp2_with (first | (go_at_call 92;refine (CL.o _).mono ?_));rintro e w1 ⟨rfl,hg⟩;obtain ⟨A,hA⟩:=nm (w.heap.size);have HP0:Hd (PB A 0 0 0 ⟨#[]⟩ 0 w1):=by
  refine PB.grow ?_ hg;unfold PB;rw [<-hA];exact heap_alloc_new w _
 have HG:Hd (w.grownBy w1 none):=gb_trans (gb_alloc (gb_refl w none) _) hg;have HA:Hd (w.heap.size<=A/\b < A/\A < w1.heap.size):=⟨Nat.le_of_eq hA,by rw [<-hA];exact HBb.o,(hqL HP0.o)⟩
 try rw [hA]
 clear hA hg;obtain ⟨C,hC⟩:=nm (w1.heap.size);go_wp2_with (first | (go_at_call 133;refine (numbersOf_any _ _ (by simp;omega)).mono ?_));rintro e w2 ⟨rfl,hg⟩;have HPC:Hd (PB C 0 0 0 ⟨#[48]⟩ 0 w2):=by
  refine PB.grow ?_ hg;unfold PB;rw [<-hC];exact heap_alloc_new w1 _
 replace HP0:Hd (PB A 0 0 0 ⟨#[]⟩ 0 w2):=(HP0.o.grow (gb_alloc (gb_refl w1 none) _)).grow hg;replace HG:Hd (w.grownBy w2 none):=gb_trans HG.o (gb_trans (gb_alloc (gb_refl w1 none) _) hg);replace HA:Hd (w.heap.size<=A/\b < A/\A < C):=⟨HA.o.1,HA.o.2.1,by rw [<-hC];exact HA.o.2.2⟩;replace HI:Hd (RS b s i w2):=HI.o.grow HG.o
 try rw [hC]
 clear hC hg;have HBC:Hd (b ≠ C/\b ≠ A/\C ≠ A/\A ≠ C/\C ≠ b/\A ≠ b):=by have:=HA.o;refine ⟨?_,?_,?_,?_,?_,?_⟩ <;> omega
 have HWC:Hd (w.heap.size<=C/\w.heap.size<=A):=by have:=HA.o;exact ⟨by omega,this.1⟩
 have END:Hd (∀(W:World) (j:Nat) (y1 y2 y3:Int) (P:ByteArray) (n E:Int),RS b s j W->PB A 0 0 0 ⟨#[]⟩ 0 W->w.grownBy W (some b)->E=R.1->j=R.2.1->(E=0->paAgg y1 y2 y3 P n=paVal R.2.2)->PB A y1 y2 y3 P n (put6 W A y1 y2 y3 P n)/\PaPost b s R w (.returned (.tuple #[.agg #[.int .i64 y1,.int .i64 y2,.int .i64 y3,.string P,.string ⟨#[]⟩,.int .i64 n],.int .i64 E])) (put6 W A y1 y2 y3 P n)):=by
  intro W j y1 y2 y3 P n E h1 h2 h3 h4 h5 h6;subst h4 h5;exact ⟨put6_row h2 _ _ _ _ _,y1,y2,y3,P,n,rfl,put6_rs h1 HBC.o.2.1 _ _ _ _ _,put6_gb h3 HWC.o.2 _ _ _ _ _,h6⟩
 go_wp2;go_loopw [13] (fun vi wr=>∃(k j:Nat) (x1 x2 x3 n:Int),vi=.int .i64 k/\j<=s.size/\RS b s j wr/\PB C x1 x2 x3 ⟨#[48]⟩ n wr/\PB A 0 0 0 ⟨#[]⟩ 0 wr/\w.grownBy wr (some b)/\((k=0/\j=i/\x1=0/\x2=0/\x3=0/\n=0)\/(k=1/\R=pa1 l j x1/\x2=0/\x3=0/\n=1)\/(k=2/\R=pa2 l j x1 x2/\x3=0/\n=2)\/(k=3/\R=pa3 l j x1 x2 x3/\n=3))) (fun vi _=>3 - (intOf vi).toNat)
 case atStart=>exact ⟨0,i,0,0,0,0,rfl,HIi.o,HI.o,HPC.o,HP0.o,gb_weak HG.o _,Or.inl ⟨rfl,rfl,rfl,rfl,rfl,rfl⟩⟩
 case round =>
  obtain ⟨k,j,x1,x2,x3,n,rfl,hj,hrs,hpc,hpa,hg,hcase⟩:=hrel;clear HI HPC HP0 HG;have HJ:Hd (j<=s.size):=hj;have HRS:Hd (RS b s j wr):=hrs;have HPC:Hd (PB C x1 x2 x3 ⟨#[48]⟩ n wr):=hpc;have HPA:Hd (PB A 0 0 0 ⟨#[]⟩ 0 wr):=hpa;have HG:Hd (w.grownBy wr (some b)):=hg;clear hj hrs hpc hpa hg
  rcases hcase with ⟨rfl,rfl,rfl,rfl,rfl,rfl⟩ | ⟨rfl,hrk,rfl,rfl,rfl⟩ | ⟨rfl,hrk,rfl,rfl⟩ | ⟨rfl,hrk,rfl⟩
  ·have ix:=jp0 C wr;have HJn:Hd (j<=s.size):=HJ.o;have HRk:Hd (R=if wildAt l j=true then (0,j+1,pa0) else if (rdNum l j).1=0 then pa1 l (rdNum l j).2.2 (rdNum l j).2.1 else ((rdNum l j).1,(rdNum l j).2.2,pa0)):=HR.o;clear HR
   cases hw:wildAt l j with
   | true =>
    have HZ:Hd (R=(0,j+1,⟨0,0,0,0,[]⟩)):=by show R=_;rw [HRk.o,if_pos hw];rfl
    have CW1:Hd (∀w,RS b s (j) w->Calls Tryz.prog 134 #[.pointer (some ⟨b,0,none⟩)] w fun e w'=>e=.returned (.bool true)/\RS b s (j+1) w'/\w.grownBy w' (some b)):=fun w h=>by have:=CW.o (j) w HJn.o h;rw [hw] at this;exact this
    clear hw;go_wp2_with (first | (go_at_call 134;refine (CW1.o _ HRS.o).mono ?_));rintro e u1 ⟨rfl,hr,hg⟩;replace HRS:Hd (RS b s (j+1) u1):=hr;replace HPC:Hd (PB C 0 0 0 ⟨#[48]⟩ 0 u1):=HPC.o.growb hg HBC.o.2.2.2.2.1;replace HPA:Hd (PB A 0 0 0 ⟨#[]⟩ 0 u1):=HPA.o.growb hg HBC.o.2.2.2.2.2;replace HG:Hd (w.grownBy u1 (some b)):=gb_trans HG.o hg;clear hr hg;obtain ⟨a0,a1,a2,a3,a4,a5⟩:=HPA.o.cells;have af:=HPA.o.f;obtain ⟨c0,c1,c2,c3,c4,c5⟩:=HPC.o.cells;have cf:=HPC.o.f;obtain ⟨n1,n2,n3,n4,n5,n6⟩:=HBC.o;go_wp2;obtain ⟨hrow,hpost⟩:=END.o u1 (j+1) 0 0 0 ⟨#[48]⟩ 0 0 HRS.o HPA.o HG.o (by rw [HZ.o]) (by rw [HZ.o]) (fun _=>by rw [HZ.o];rfl);exact bodyPost_ret (res_row_tmp (p:=2) (u:=3) rfl _ _ A _ _ (0,0) _ rfl hrow Tryz.underlying163 rfl (by kernel_rfl)) rfl hpost
   | false =>
    have HRn:Hd (R=if (rdNum l (j)).1=0 then pa1 l (rdNum l (j)).2.2 (rdNum l (j)).2.1 else ((rdNum l (j)).1,(rdNum l (j)).2.2,pa0)):=by show R=_;rw [HRk.o,if_neg (by rw [hw];decide)]
    have CW1:Hd (∀w,RS b s (j) w->Calls Tryz.prog 134 #[.pointer (some ⟨b,0,none⟩)] w fun e w'=>e=.returned (.bool false)/\RS b s (j) w'/\w.grownBy w' (some b)):=fun w h=>by have:=CW.o (j) w HJn.o h;rw [hw] at this;exact this
    have CNJ:Hd (∀w,RS b s (j) w->Calls Tryz.prog 67 #[.pointer (some ⟨b,0,none⟩)] w fun e w'=>e=.returned (.tuple #[.int .i64 (rdNum l (j)).2.1,.int .i64 (rdNum l (j)).1])/\RS b s (rdNum l (j)).2.2 w'/\w.grownBy w' (some b)):=fun w h=>CN.o (j) w HJn.o h
    have HLq:Hd ((rdNum l (j)).2.2<=s.size):=HNL.o (j) HJn.o;obtain ⟨E,hE⟩:=nm ((rdNum l (j)).1);obtain ⟨V,hV⟩:=nm ((rdNum l (j)).2.1);obtain ⟨Q,hQ⟩:=nm ((rdNum l (j)).2.2);rw [hE,hV,hQ] at CNJ HRn;rw [hQ] at HLq;clear hE hV hQ hw;go_wp2_with (first | (go_at_call 134;refine (CW1.o _ HRS.o).mono ?_));rintro e u1 ⟨rfl,hr,hg⟩;replace HRS:Hd (RS b s (j) u1):=hr;replace HPC:Hd (PB C 0 0 0 ⟨#[48]⟩ 0 u1):=HPC.o.growb hg HBC.o.2.2.2.2.1;replace HPA:Hd (PB A 0 0 0 ⟨#[]⟩ 0 u1):=HPA.o.growb hg HBC.o.2.2.2.2.2;replace HG:Hd (w.grownBy u1 (some b)):=gb_trans HG.o hg;clear hr hg;go_wp2_with (first | (go_at_call 67;refine (CNJ.o _ HRS.o).mono ?_));rintro e u2 ⟨rfl,hr,hg⟩;replace HRS:Hd (RS b s (Q) u2):=hr;replace HPC:Hd (PB C 0 0 0 ⟨#[48]⟩ 0 u2):=HPC.o.growb hg HBC.o.2.2.2.2.1;replace HPA:Hd (PB A 0 0 0 ⟨#[]⟩ 0 u2):=HPA.o.growb hg HBC.o.2.2.2.2.2
    replace HG:Hd (w.grownBy u2 (some b)):=gb_trans HG.o hg;clear hr hg
    cases hz:(E == 0) with
    | false =>
     have HZ:Hd (R=(E,Q,pa0)):=by show R=_;rw [HRn.o,if_neg (by simpa using hz)]
     have HE0:Hd (E ≠ 0):=by show E ≠ 0;simpa using hz
     obtain ⟨a0,a1,a2,a3,a4,a5⟩:=HPA.o.cells;have af:=HPA.o.f;obtain ⟨c0,c1,c2,c3,c4,c5⟩:=HPC.o.cells;have cf:=HPC.o.f;obtain ⟨n1,n2,n3,n4,n5,n6⟩:=HBC.o;go_wp2;obtain ⟨hrow,hpost⟩:=END.o (u2.setCell ⟨C,0,none⟩ (.int .i64 V)) Q 0 0 0 ⟨#[]⟩ 0 E (HRS.o.other HBC.o.1 _ _) (HPA.o.other HBC.o.2.2.2.1 _ _) (gb_new HG.o HWC.o.1 _ _) (by rw [HZ.o]) (by rw [HZ.o]) (fun h=>absurd h HE0.o);exact bodyPost_ret (res_row_tmp (p:=2) (u:=3) rfl _ _ A _ _ (0,0) _ rfl hrow Tryz.underlying163 rfl (by kernel_rfl)) rfl hpost
    | true =>
     have HZ:Hd (R=pa1 l Q V):=by show R=_;rw [HRn.o,if_pos (by simpa using hz)]
     obtain ⟨c0,c1,c2,c3,c4,c5⟩:=HPC.o.cells;have cf:=HPC.o.f;go_wp2;go_roundw
     case rel=>exact ⟨1,Q,V,0,0,1,rfl,HLq.o,(HRS.o.other HBC.o.1 _ _).other HBC.o.1 _ _,(HPC.o.set0 V).set5 1,(HPA.o.other HBC.o.2.2.2.1 _ _).other HBC.o.2.2.2.1 _ _,gb_new (gb_new HG.o HWC.o.1 _ _) HWC.o.1 _ _,Or.inr (Or.inl ⟨rfl,HZ.o,rfl,rfl,rfl⟩)⟩
     case measure=>simp [intOf]
  ·have ix:=jp1 C wr;have HRr:Hd (R=pa1 l j x1):=hrk;clear hrk HR
   cases hc:decide (l[j]?=some 46) with
   | false =>
    have hc':=of_decide_eq_false hc;have HZ:Hd (R=(0,j,⟨1,x1,0,0,[]⟩)):=by show R=_;rw [HRr.o];unfold pa1;rw [if_neg hc']
    have CT1:Hd (∀w,RS b s j w->Calls Tryz.prog 66 #[.pointer (some ⟨b,0,none⟩),.string ⟨#[46]⟩] w fun e w'=>e=.returned (.bool false)/\RS b s j w'/\w.grownBy w' (some b)):=fun w h=>TN.o j w HJ.o hc' h
    clear hc hc';go_wp2_with (first | (go_at_call 66;refine (CT1.o _ HRS.o).mono ?_));rintro e u1 ⟨rfl,hr,hg⟩;replace HRS:Hd (RS b s (j) u1):=hr;replace HPC:Hd (PB C x1 0 0 ⟨#[48]⟩ 1 u1):=HPC.o.growb hg HBC.o.2.2.2.2.1;replace HPA:Hd (PB A 0 0 0 ⟨#[]⟩ 0 u1):=HPA.o.growb hg HBC.o.2.2.2.2.2;replace HG:Hd (w.grownBy u1 (some b)):=gb_trans HG.o hg;clear hr hg;obtain ⟨a0,a1,a2,a3,a4,a5⟩:=HPA.o.cells;have af:=HPA.o.f;obtain ⟨c0,c1,c2,c3,c4,c5⟩:=HPC.o.cells;have cf:=HPC.o.f;obtain ⟨n1,n2,n3,n4,n5,n6⟩:=HBC.o;go_wp2;obtain ⟨hrow,hpost⟩:=END.o u1 j x1 0 0 ⟨#[48]⟩ 1 0 HRS.o HPA.o HG.o (by rw [HZ.o]) (by rw [HZ.o]) (fun _=>by rw [HZ.o];rfl);exact bodyPost_ret (res_row_tmp (p:=2) (u:=3) rfl _ _ A _ _ (0,0) _ rfl hrow Tryz.underlying163 rfl (by kernel_rfl)) rfl hpost
   | true =>
    have hc':=of_decide_eq_true hc;have HRk:Hd (R=if wildAt l (j+1)=true then (0,j+1+1,⟨1,x1,0,0,[]⟩) else if (rdNum l (j+1)).1=0 then pa2 l (rdNum l (j+1)).2.2 x1 (rdNum l (j+1)).2.1 else ((rdNum l (j+1)).1,(rdNum l (j+1)).2.2,pa0)):=by show R=_;rw [HRr.o];unfold pa1;rw [if_pos hc']
    have CT1:Hd (∀w,RS b s j w->Calls Tryz.prog 66 #[.pointer (some ⟨b,0,none⟩),.string ⟨#[46]⟩] w fun e w'=>e=.returned (.bool true)/\RS b s (j+1) w'/\w.grownBy w' (some b)):=fun w h=>TY.o j w hc' h
    have HJn:Hd (j+1<=s.size):=HDL.o j hc';clear hc hc';go_wp2_with (first | (go_at_call 66;refine (CT1.o _ HRS.o).mono ?_));rintro e u0 ⟨rfl,hr,hg⟩;replace HRS:Hd (RS b s (j+1) u0):=hr;replace HPC:Hd (PB C x1 0 0 ⟨#[48]⟩ 1 u0):=HPC.o.growb hg HBC.o.2.2.2.2.1;replace HPA:Hd (PB A 0 0 0 ⟨#[]⟩ 0 u0):=HPA.o.growb hg HBC.o.2.2.2.2.2;replace HG:Hd (w.grownBy u0 (some b)):=gb_trans HG.o hg;clear hr hg
    cases hw:wildAt l (j+1) with
    | true =>
     have HZ:Hd (R=(0,(j+1)+1,⟨1,x1,0,0,[]⟩)):=by show R=_;rw [HRk.o,if_pos hw]
     have CW1:Hd (∀w,RS b s ((j+1)) w->Calls Tryz.prog 134 #[.pointer (some ⟨b,0,none⟩)] w fun e w'=>e=.returned (.bool true)/\RS b s ((j+1)+1) w'/\w.grownBy w' (some b)):=fun w h=>by have:=CW.o ((j+1)) w HJn.o h;rw [hw] at this;exact this
     clear hw;go_wp2_with (first | (go_at_call 134;refine (CW1.o _ HRS.o).mono ?_));rintro e u1 ⟨rfl,hr,hg⟩;replace HRS:Hd (RS b s ((j+1)+1) u1):=hr;replace HPC:Hd (PB C x1 0 0 ⟨#[48]⟩ 1 u1):=HPC.o.growb hg HBC.o.2.2.2.2.1;replace HPA:Hd (PB A 0 0 0 ⟨#[]⟩ 0 u1):=HPA.o.growb hg HBC.o.2.2.2.2.2;replace HG:Hd (w.grownBy u1 (some b)):=gb_trans HG.o hg;clear hr hg;obtain ⟨a0,a1,a2,a3,a4,a5⟩:=HPA.o.cells;have af:=HPA.o.f;obtain ⟨c0,c1,c2,c3,c4,c5⟩:=HPC.o.cells;have cf:=HPC.o.f;obtain ⟨n1,n2,n3,n4,n5,n6⟩:=HBC.o;go_wp2;obtain ⟨hrow,hpost⟩:=END.o u1 ((j+1)+1) x1 0 0 ⟨#[48]⟩ 1 0 HRS.o HPA.o HG.o (by rw [HZ.o]) (by rw [HZ.o]) (fun _=>by rw [HZ.o];rfl);exact bodyPost_ret (res_row_tmp (p:=2) (u:=3) rfl _ _ A _ _ (0,0) _ rfl hrow Tryz.underlying163 rfl (by kernel_rfl)) rfl hpost
    | false =>
     have HRn:Hd (R=if (rdNum l ((j+1))).1=0 then pa2 l (rdNum l ((j+1))).2.2 x1 (rdNum l ((j+1))).2.1 else ((rdNum l ((j+1))).1,(rdNum l ((j+1))).2.2,pa0)):=by show R=_;rw [HRk.o,if_neg (by rw [hw];decide)]
     have CW1:Hd (∀w,RS b s ((j+1)) w->Calls Tryz.prog 134 #[.pointer (some ⟨b,0,none⟩)] w fun e w'=>e=.returned (.bool false)/\RS b s ((j+1)) w'/\w.grownBy w' (some b)):=fun w h=>by have:=CW.o ((j+1)) w HJn.o h;rw [hw] at this;exact this
     have CNJ:Hd (∀w,RS b s ((j+1)) w->Calls Tryz.prog 67 #[.pointer (some ⟨b,0,none⟩)] w fun e w'=>e=.returned (.tuple #[.int .i64 (rdNum l ((j+1))).2.1,.int .i64 (rdNum l ((j+1))).1])/\RS b s (rdNum l ((j+1))).2.2 w'/\w.grownBy w' (some b)):=fun w h=>CN.o ((j+1)) w HJn.o h
     have HLq:Hd ((rdNum l ((j+1))).2.2<=s.size):=HNL.o ((j+1)) HJn.o;obtain ⟨E,hE⟩:=nm ((rdNum l ((j+1))).1);obtain ⟨V,hV⟩:=nm ((rdNum l ((j+1))).2.1);obtain ⟨Q,hQ⟩:=nm ((rdNum l ((j+1))).2.2);rw [hE,hV,hQ] at CNJ HRn;rw [hQ] at HLq;clear hE hV hQ hw;go_wp2_with (first | (go_at_call 134;refine (CW1.o _ HRS.o).mono ?_));rintro e u1 ⟨rfl,hr,hg⟩;replace HRS:Hd (RS b s ((j+1)) u1):=hr;replace HPC:Hd (PB C x1 0 0 ⟨#[48]⟩ 1 u1):=HPC.o.growb hg HBC.o.2.2.2.2.1;replace HPA:Hd (PB A 0 0 0 ⟨#[]⟩ 0 u1):=HPA.o.growb hg HBC.o.2.2.2.2.2;replace HG:Hd (w.grownBy u1 (some b)):=gb_trans HG.o hg;clear hr hg;go_wp2_with (first | (go_at_call 67;refine (CNJ.o _ HRS.o).mono ?_));rintro e u2 ⟨rfl,hr,hg⟩;replace HRS:Hd (RS b s (Q) u2):=hr;replace HPC:Hd (PB C x1 0 0 ⟨#[48]⟩ 1 u2):=HPC.o.growb hg HBC.o.2.2.2.2.1;replace HPA:Hd (PB A 0 0 0 ⟨#[]⟩ 0 u2):=HPA.o.growb hg HBC.o.2.2.2.2.2
     replace HG:Hd (w.grownBy u2 (some b)):=gb_trans HG.o hg;clear hr hg
     cases hz:(E == 0) with
     | false =>
      have HZ:Hd (R=(E,Q,pa0)):=by show R=_;rw [HRn.o,if_neg (by simpa using hz)]
      have HE0:Hd (E ≠ 0):=by show E ≠ 0;simpa using hz
      obtain ⟨a0,a1,a2,a3,a4,a5⟩:=HPA.o.cells;have af:=HPA.o.f;obtain ⟨c0,c1,c2,c3,c4,c5⟩:=HPC.o.cells;have cf:=HPC.o.f;obtain ⟨n1,n2,n3,n4,n5,n6⟩:=HBC.o;go_wp2;obtain ⟨hrow,hpost⟩:=END.o (u2.setCell ⟨C,1,none⟩ (.int .i64 V)) Q 0 0 0 ⟨#[]⟩ 0 E (HRS.o.other HBC.o.1 _ _) (HPA.o.other HBC.o.2.2.2.1 _ _) (gb_new HG.o HWC.o.1 _ _) (by rw [HZ.o]) (by rw [HZ.o]) (fun h=>absurd h HE0.o);exact bodyPost_ret (res_row_tmp (p:=2) (u:=3) rfl _ _ A _ _ (0,0) _ rfl hrow Tryz.underlying163 rfl (by kernel_rfl)) rfl hpost
     | true =>
      have HZ:Hd (R=pa2 l Q x1 V):=by show R=_;rw [HRn.o,if_pos (by simpa using hz)]
      obtain ⟨c0,c1,c2,c3,c4,c5⟩:=HPC.o.cells;have cf:=HPC.o.f;go_wp2;go_roundw
      case rel=>exact ⟨2,Q,x1,V,0,2,rfl,HLq.o,(HRS.o.other HBC.o.1 _ _).other HBC.o.1 _ _,(HPC.o.set1 V).set5 2,(HPA.o.other HBC.o.2.2.2.1 _ _).other HBC.o.2.2.2.1 _ _,gb_new (gb_new HG.o HWC.o.1 _ _) HWC.o.1 _ _,Or.inr (Or.inr (Or.inl ⟨rfl,HZ.o,rfl,rfl⟩))⟩
      case measure=>simp [intOf]
  ·have ix:=jp2 C wr;have HRr:Hd (R=pa2 l j x1 x2):=hrk;clear hrk HR
   cases hc:decide (l[j]?=some 46) with
   | false =>
    have hc':=of_decide_eq_false hc;have HZ:Hd (R=(0,j,⟨2,x1,x2,0,[]⟩)):=by show R=_;rw [HRr.o];unfold pa2;rw [if_neg hc']
    have CT1:Hd (∀w,RS b s j w->Calls Tryz.prog 66 #[.pointer (some ⟨b,0,none⟩),.string ⟨#[46]⟩] w fun e w'=>e=.returned (.bool false)/\RS b s j w'/\w.grownBy w' (some b)):=fun w h=>TN.o j w HJ.o hc' h
    clear hc hc';go_wp2_with (first | (go_at_call 66;refine (CT1.o _ HRS.o).mono ?_));rintro e u1 ⟨rfl,hr,hg⟩;replace HRS:Hd (RS b s (j) u1):=hr;replace HPC:Hd (PB C x1 x2 0 ⟨#[48]⟩ 2 u1):=HPC.o.growb hg HBC.o.2.2.2.2.1;replace HPA:Hd (PB A 0 0 0 ⟨#[]⟩ 0 u1):=HPA.o.growb hg HBC.o.2.2.2.2.2;replace HG:Hd (w.grownBy u1 (some b)):=gb_trans HG.o hg;clear hr hg;obtain ⟨a0,a1,a2,a3,a4,a5⟩:=HPA.o.cells;have af:=HPA.o.f;obtain ⟨c0,c1,c2,c3,c4,c5⟩:=HPC.o.cells;have cf:=HPC.o.f;obtain ⟨n1,n2,n3,n4,n5,n6⟩:=HBC.o;go_wp2;obtain ⟨hrow,hpost⟩:=END.o u1 j x1 x2 0 ⟨#[48]⟩ 2 0 HRS.o HPA.o HG.o (by rw [HZ.o]) (by rw [HZ.o]) (fun _=>by rw [HZ.o];rfl);exact bodyPost_ret (res_row_tmp (p:=2) (u:=3) rfl _ _ A _ _ (0,0) _ rfl hrow Tryz.underlying163 rfl (by kernel_rfl)) rfl hpost
   | true =>
    have hc':=of_decide_eq_true hc;have HRk:Hd (R=if wildAt l (j+1)=true then (0,j+1+1,⟨2,x1,x2,0,[]⟩) else if (rdNum l (j+1)).1=0 then pa3 l (rdNum l (j+1)).2.2 x1 x2 (rdNum l (j+1)).2.1 else ((rdNum l (j+1)).1,(rdNum l (j+1)).2.2,pa0)):=by show R=_;rw [HRr.o];unfold pa2;rw [if_pos hc']
    have CT1:Hd (∀w,RS b s j w->Calls Tryz.prog 66 #[.pointer (some ⟨b,0,none⟩),.string ⟨#[46]⟩] w fun e w'=>e=.returned (.bool true)/\RS b s (j+1) w'/\w.grownBy w' (some b)):=fun w h=>TY.o j w hc' h
    have HJn:Hd (j+1<=s.size):=HDL.o j hc';clear hc hc';go_wp2_with (first | (go_at_call 66;refine (CT1.o _ HRS.o).mono ?_));rintro e u0 ⟨rfl,hr,hg⟩;replace HRS:Hd (RS b s (j+1) u0):=hr;replace HPC:Hd (PB C x1 x2 0 ⟨#[48]⟩ 2 u0):=HPC.o.growb hg HBC.o.2.2.2.2.1;replace HPA:Hd (PB A 0 0 0 ⟨#[]⟩ 0 u0):=HPA.o.growb hg HBC.o.2.2.2.2.2;replace HG:Hd (w.grownBy u0 (some b)):=gb_trans HG.o hg;clear hr hg
    cases hw:wildAt l (j+1) with
    | true =>
     have HZ:Hd (R=(0,(j+1)+1,⟨2,x1,x2,0,[]⟩)):=by show R=_;rw [HRk.o,if_pos hw]
     have CW1:Hd (∀w,RS b s ((j+1)) w->Calls Tryz.prog 134 #[.pointer (some ⟨b,0,none⟩)] w fun e w'=>e=.returned (.bool true)/\RS b s ((j+1)+1) w'/\w.grownBy w' (some b)):=fun w h=>by have:=CW.o ((j+1)) w HJn.o h;rw [hw] at this;exact this
     clear hw;go_wp2_with (first | (go_at_call 134;refine (CW1.o _ HRS.o).mono ?_));rintro e u1 ⟨rfl,hr,hg⟩;replace HRS:Hd (RS b s ((j+1)+1) u1):=hr;replace HPC:Hd (PB C x1 x2 0 ⟨#[48]⟩ 2 u1):=HPC.o.growb hg HBC.o.2.2.2.2.1;replace HPA:Hd (PB A 0 0 0 ⟨#[]⟩ 0 u1):=HPA.o.growb hg HBC.o.2.2.2.2.2;replace HG:Hd (w.grownBy u1 (some b)):=gb_trans HG.o hg;clear hr hg;obtain ⟨a0,a1,a2,a3,a4,a5⟩:=HPA.o.cells;have af:=HPA.o.f;obtain ⟨c0,c1,c2,c3,c4,c5⟩:=HPC.o.cells;have cf:=HPC.o.f;obtain ⟨n1,n2,n3,n4,n5,n6⟩:=HBC.o;go_wp2;obtain ⟨hrow,hpost⟩:=END.o u1 ((j+1)+1) x1 x2 0 ⟨#[48]⟩ 2 0 HRS.o HPA.o HG.o (by rw [HZ.o]) (by rw [HZ.o]) (fun _=>by rw [HZ.o];rfl);exact bodyPost_ret (res_row_tmp (p:=2) (u:=3) rfl _ _ A _ _ (0,0) _ rfl hrow Tryz.underlying163 rfl (by kernel_rfl)) rfl hpost
    | false =>
     have HRn:Hd (R=if (rdNum l ((j+1))).1=0 then pa3 l (rdNum l ((j+1))).2.2 x1 x2 (rdNum l ((j+1))).2.1 else ((rdNum l ((j+1))).1,(rdNum l ((j+1))).2.2,pa0)):=by show R=_;rw [HRk.o,if_neg (by rw [hw];decide)]
     have CW1:Hd (∀w,RS b s ((j+1)) w->Calls Tryz.prog 134 #[.pointer (some ⟨b,0,none⟩)] w fun e w'=>e=.returned (.bool false)/\RS b s ((j+1)) w'/\w.grownBy w' (some b)):=fun w h=>by have:=CW.o ((j+1)) w HJn.o h;rw [hw] at this;exact this
     have CNJ:Hd (∀w,RS b s ((j+1)) w->Calls Tryz.prog 67 #[.pointer (some ⟨b,0,none⟩)] w fun e w'=>e=.returned (.tuple #[.int .i64 (rdNum l ((j+1))).2.1,.int .i64 (rdNum l ((j+1))).1])/\RS b s (rdNum l ((j+1))).2.2 w'/\w.grownBy w' (some b)):=fun w h=>CN.o ((j+1)) w HJn.o h
     have HLq:Hd ((rdNum l ((j+1))).2.2<=s.size):=HNL.o ((j+1)) HJn.o;obtain ⟨E,hE⟩:=nm ((rdNum l ((j+1))).1);obtain ⟨V,hV⟩:=nm ((rdNum l ((j+1))).2.1);obtain ⟨Q,hQ⟩:=nm ((rdNum l ((j+1))).2.2);rw [hE,hV,hQ] at CNJ HRn;rw [hQ] at HLq;clear hE hV hQ hw;go_wp2_with (first | (go_at_call 134;refine (CW1.o _ HRS.o).mono ?_));rintro e u1 ⟨rfl,hr,hg⟩;replace HRS:Hd (RS b s ((j+1)) u1):=hr;replace HPC:Hd (PB C x1 x2 0 ⟨#[48]⟩ 2 u1):=HPC.o.growb hg HBC.o.2.2.2.2.1;replace HPA:Hd (PB A 0 0 0 ⟨#[]⟩ 0 u1):=HPA.o.growb hg HBC.o.2.2.2.2.2;replace HG:Hd (w.grownBy u1 (some b)):=gb_trans HG.o hg;clear hr hg;go_wp2_with (first | (go_at_call 67;refine (CNJ.o _ HRS.o).mono ?_));rintro e u2 ⟨rfl,hr,hg⟩;replace HRS:Hd (RS b s (Q) u2):=hr;replace HPC:Hd (PB C x1 x2 0 ⟨#[48]⟩ 2 u2):=HPC.o.growb hg HBC.o.2.2.2.2.1;replace HPA:Hd (PB A 0 0 0 ⟨#[]⟩ 0 u2):=HPA.o.growb hg HBC.o.2.2.2.2.2
     replace HG:Hd (w.grownBy u2 (some b)):=gb_trans HG.o hg;clear hr hg
     cases hz:(E == 0) with
     | false =>
      have HZ:Hd (R=(E,Q,pa0)):=by show R=_;rw [HRn.o,if_neg (by simpa using hz)]
      have HE0:Hd (E ≠ 0):=by show E ≠ 0;simpa using hz
      obtain ⟨a0,a1,a2,a3,a4,a5⟩:=HPA.o.cells;have af:=HPA.o.f;obtain ⟨c0,c1,c2,c3,c4,c5⟩:=HPC.o.cells;have cf:=HPC.o.f;obtain ⟨n1,n2,n3,n4,n5,n6⟩:=HBC.o;go_wp2;obtain ⟨hrow,hpost⟩:=END.o (u2.setCell ⟨C,2,none⟩ (.int .i64 V)) Q 0 0 0 ⟨#[]⟩ 0 E (HRS.o.other HBC.o.1 _ _) (HPA.o.other HBC.o.2.2.2.1 _ _) (gb_new HG.o HWC.o.1 _ _) (by rw [HZ.o]) (by rw [HZ.o]) (fun h=>absurd h HE0.o);exact bodyPost_ret (res_row_tmp (p:=2) (u:=3) rfl _ _ A _ _ (0,0) _ rfl hrow Tryz.underlying163 rfl (by kernel_rfl)) rfl hpost
     | true =>
      have HZ:Hd (R=pa3 l Q x1 x2 V):=by show R=_;rw [HRn.o,if_pos (by simpa using hz)]
      obtain ⟨c0,c1,c2,c3,c4,c5⟩:=HPC.o.cells;have cf:=HPC.o.f;go_wp2;go_roundw
      case rel=>exact ⟨3,Q,x1,x2,V,3,rfl,HLq.o,(HRS.o.other HBC.o.1 _ _).other HBC.o.1 _ _,(HPC.o.set2 V).set5 3,(HPA.o.other HBC.o.2.2.2.1 _ _).other HBC.o.2.2.2.1 _ _,gb_new (gb_new HG.o HWC.o.1 _ _) HWC.o.1 _ _,Or.inr (Or.inr (Or.inr ⟨rfl,HZ.o,rfl⟩))⟩
      case measure=>simp [intOf]
  ·have HRr:Hd (R=pa3 l j x1 x2 x3):=hrk;clear hrk HR;have CTJ:Hd (∀w,RS b s j w->Calls Tryz.prog 50 #[.pointer (some ⟨b,0,none⟩)] w fun e w'=>e=.returned (.tuple #[.string ⟨(tailP l j).2.2.1.toArray⟩,.string ⟨(tailP l j).2.2.2.toArray⟩,.int .i64 (tailP l j).1])/\RS b s (tailP l j).2.1 w'/\w.grownBy w' (some b)):=fun w h=>CT.o j w HJ.o h
   have HRt:Hd (R=if (tailP l j).1=0 then (0,(tailP l j).2.1,⟨3,x1,x2,x3,(tailP l j).2.2.1⟩) else ((tailP l j).1,(tailP l j).2.1,pa0)):=HRr.o;obtain ⟨E,Q,P,B,hT⟩:∃E Q P B,tailP l j=(E,Q,P,B):=⟨_,_,_,_,rfl⟩;rw [hT] at CTJ HRt;clear hT;go_wp2_with (first | (go_at_call 50;refine (CTJ.o _ HRS.o).mono ?_));rintro e u1 rfl hr hg;replace HRS:Hd (RS b s (Q) u1):=hr;replace HPC:Hd (PB C x1 x2 x3 ⟨#[48]⟩ 3 u1):=HPC.o.growb hg HBC.o.2.2.2.2.1;replace HPA:Hd (PB A 0 0 0 ⟨#[]⟩ 0 u1):=HPA.o.growb hg HBC.o.2.2.2.2.2;replace HG:Hd (w.grownBy u1 (some b)):=gb_trans HG.o hg;clear hr hg;obtain ⟨a0,a1,a2,a3,a4,a5⟩:=HPA.o.cells;have af:=HPA.o.f;obtain ⟨c0,c1,c2,c3,c4,c5⟩:=HPC.o.cells;have cf:=HPC.o.f;obtain ⟨n1,n2,n3,n4,n5,n6⟩:=HBC.o;have HZ:Hd (E=R.1/\Q=R.2.1/\(E=0->paAgg x1 x2 x3 ⟨P.toArray⟩ 3=paVal R.2.2)):=by
    have h:=HRt.o
    by_cases h0:E=0
    ·rw [if_pos h0] at h;rw [h];exact ⟨h0,rfl,fun _=>rfl⟩
    ·rw [if_neg h0] at h;rw [h];exact ⟨rfl,rfl,fun e=>absurd e h0⟩
   go_wp2;obtain ⟨hrow,hpost⟩:=END.o (u1.setCell ⟨C,3,none⟩ (.string ⟨P.toArray⟩)) Q x1 x2 x3 ⟨P.toArray⟩ 3 E (HRS.o.other HBC.o.1 _ _) (HPA.o.other HBC.o.2.2.2.1 _ _) (gb_new HG.o HWC.o.1 _ _) HZ.o.1 HZ.o.2.1 (HZ.o.2.2);exact bodyPost_ret (res_row_tmp (p:=2) (u:=3) rfl _ _ A _ _ (0,0) _ rfl hrow Tryz.underlying163 rfl (by kernel_rfl)) rfl hpost
end Go.Proofs.YticgahdffjnabaaGreatDoor
