import Derived.Test.YtonfldbigenfhaaGreatDoorM16
import Derived.Test.YtonfldbigenfhaaGreatDoorM20
namespace Go.Proofs.YtonfldbigenfhaaGreatDoor
open Go.RowKit
set_option linter.unusedVariables false
theorem PB.f {A:Nat} {a b c:Int} {P:ByteArray} {n:Int} {w:World} (h:PB A a b c P n w) (o:Nat):w.frozen? ⟨A,o,none⟩=false:=Lib.frozen_of_heap h o
theorem PB.growb {A:Nat} {a b c:Int} {P:ByteArray} {n:Int} {w w':World} {q:Nat} (h:PB A a b c P n w) (hg:w.grownBy w' (some q)) (hn:A ≠ q):PB A a b c P n w':=by
 unfold PB at h ⊢
 rw [hg.block A ((Array.getElem?_eq_some_iff.1 h).1) (by simpa using hn)];exact h
theorem PB.other {A V:Nat} {a b c:Int} {P:ByteArray} {n:Int} {w:World} (h:PB A a b c P n w) (hn:A ≠ V) (o:Nat) (x:Value):PB A a b c P n (w.setCell ⟨V,o,none⟩ x):=by
 unfold PB at h ⊢
 rw [heap_setCell_other w _ A x (by simpa using hn)];exact h
theorem PB.set0 {A:Nat} {a b c:Int} {P:ByteArray} {n:Int} {w:World} (h:PB A a b c P n w) (y:Int):PB A y b c P n (w.setCell ⟨A,0,none⟩ (.int .i64 y)):=by
 unfold PB at h ⊢;simp [World.setCell,Array.getElem?_modify,h]
theorem PB.set1 {A:Nat} {a b c:Int} {P:ByteArray} {n:Int} {w:World} (h:PB A a b c P n w) (y:Int):PB A a y c P n (w.setCell ⟨A,1,none⟩ (.int .i64 y)):=by
 unfold PB at h ⊢;simp [World.setCell,Array.getElem?_modify,h]
theorem PB.set2 {A:Nat} {a b c:Int} {P:ByteArray} {n:Int} {w:World} (h:PB A a b c P n w) (y:Int):PB A a b y P n (w.setCell ⟨A,2,none⟩ (.int .i64 y)):=by
 unfold PB at h ⊢;simp [World.setCell,Array.getElem?_modify,h]
theorem PB.set3 {A:Nat} {a b c:Int} {P:ByteArray} {n:Int} {w:World} (h:PB A a b c P n w) (y:ByteArray):PB A a b c y n (w.setCell ⟨A,3,none⟩ (.string y)):=by
 unfold PB at h ⊢;simp [World.setCell,Array.getElem?_modify,h]
theorem PB.set5 {A:Nat} {a b c:Int} {P:ByteArray} {n:Int} {w:World} (h:PB A a b c P n w) (y:Int):PB A a b c P y (w.setCell ⟨A,5,none⟩ (.int .i64 y)):=by
 unfold PB at h ⊢;simp [World.setCell,Array.getElem?_modify,h]
def put6 (w:World) (A:Nat) (y1 y2 y3:Int) (x4:ByteArray) (n:Int):World:=(((((w.setCell ⟨A,0,none⟩ (.int .i64 y1)).setCell ⟨A,1,none⟩ (.int .i64 y2)).setCell ⟨A,2,none⟩ (.int .i64 y3)).setCell ⟨A,3,none⟩ (.string x4)).setCell ⟨A,4,none⟩ (.string ⟨#[]⟩)).setCell ⟨A,5,none⟩ (.int .i64 n)
theorem put6_row {w:World} {A:Nat} {z1 z2 z3:Int} {z4:ByteArray} {m:Int} (h:PB A z1 z2 z3 z4 m w) (y1 y2 y3:Int) (x4:ByteArray) (n:Int):PB A y1 y2 y3 x4 n (put6 w A y1 y2 y3 x4 n):=by
 unfold PB at h ⊢;simp [put6,World.setCell,Array.getElem?_modify,h]
theorem put6_rs {b A:Nat} {s:ByteArray} {j:Nat} {w:World} (h:RS b s j w) (hn:b ≠ A) (y1 y2 y3:Int) (x4:ByteArray) (n:Int):RS b s j (put6 w A y1 y2 y3 x4 n):=(((((h.other hn _ _).other hn _ _).other hn _ _).other hn _ _).other hn _ _).other hn _ _
theorem put6_gb {b A:Nat} {w W:World} (h:w.grownBy W (some b)) (hA:w.heap.size<=A) (y1 y2 y3:Int) (x4:ByteArray) (n:Int):w.grownBy (put6 W A y1 y2 y3 x4 n) (some b):=gb_new (gb_new (gb_new (gb_new (gb_new (gb_new h hA _ _) hA _ _) hA _ _) hA _ _) hA _ _) hA _ _
def paAgg (x1 x2 x3:Int) (P:ByteArray) (n:Int):Value:=.agg #[.int .i64 x1,.int .i64 x2,.int .i64 x3,.string P,.string ⟨#[]⟩,.int .i64 n]
def PaPost (b:Nat) (s:ByteArray) (R:Int × Nat × Pa) (w:World) (e:Ending) (w':World):Prop :=
 ∃(x1 x2 x3:Int) (P:ByteArray) (n:Int),e=.returned (.tuple #[.agg #[.int .i64 x1,.int .i64 x2,.int .i64 x3,.string P,.string ⟨#[]⟩,.int .i64 n],.int .i64 R.1])/\RS b s R.2.1 w'/\w.grownBy w' (some b)/\(R.1=0->paAgg x1 x2 x3 P n=paVal R.2.2)
set_option maxRecDepth 100000 in
set_option maxHeartbeats 3200000 in
theorem partial_any (b:Nat) (s:ByteArray) (i:Nat) (w:World) (hi:i<=s.size) (h:RS b s i w) (hs:s.size<=281474976710656) :
  Calls Tryz.prog 108 #[.pointer (some ⟨b,0,none⟩)] w (PaPost b s (rdPa s.data.toList i) w):=by
 obtain ⟨l,hl⟩:∃l,l=s.data.toList:=⟨_,rfl⟩
 have hll:l.length=s.size:=by rw [hl];simp
 have HLL:Hid (l.length=s.size):=hll
 obtain ⟨R,hR⟩:∃R,rdPa l i=R:=⟨_,rfl⟩
 rw [<-hl,hR]
 have HR:Hid (R=if wildAt l i=true then (0,i+1,pa0) else if (rdNum l i).1=0 then pa1 l (rdNum l i).2.2 (rdNum l i).2.1 else ((rdNum l i).1,(rdNum l i).2.2,pa0)):=hR.symm
 have CN:Hid (∀i w,i<=s.size->RS b s i w->Calls Tryz.prog 134 #[.pointer (some ⟨b,0,none⟩)] w fun e w'=>e=.returned (.tuple #[.int .i64 (rdNum l i).2.1,.int .i64 (rdNum l i).1])/\RS b s (rdNum l i).2.2 w'/\w.grownBy w' (some b)):=fun i w hi h=>by rw [hl];exact num_any b s i w hi h (by omega)
 have TY:Hid (∀i w,l[i]?=some 46->RS b s i w->Calls Tryz.prog 60 #[.pointer (some ⟨b,0,none⟩),.string ⟨#[46]⟩] w fun e w'=>e=.returned (.bool true)/\RS b s (i+1) w'/\w.grownBy w' (some b)):=fun i w hc h=>take_yes b s i 46 w (by rw [<-hl];exact hc) h (by omega)
 have TN:Hid (∀i w,i<=s.size->¬ l[i]?=some 46->RS b s i w->Calls Tryz.prog 60 #[.pointer (some ⟨b,0,none⟩),.string ⟨#[46]⟩] w fun e w'=>e=.returned (.bool false)/\RS b s i w'/\w.grownBy w' (some b)):=fun i w hi hc h=>take_no b s i 46 w hi (by rw [<-hl];exact hc) h (by omega)
 have CW:Hid (∀i w,i<=s.size->RS b s i w->Calls Tryz.prog 133 #[.pointer (some ⟨b,0,none⟩)] w fun e w'=>e=.returned (.bool (wildAt l i))/\RS b s (if wildAt l i=true then i+1 else i) w'/\w.grownBy w' (some b)):=fun i w hi h=>by rw [hl];exact wild_any b s i w hi h (by omega)
 have CT:Hid (∀i w,i<=s.size->RS b s i w->Calls Tryz.prog 135 #[.pointer (some ⟨b,0,none⟩)] w fun e w'=>e=.returned (.tuple #[.string ⟨(tailP l i).2.2.1.toArray⟩,.string ⟨(tailP l i).2.2.2.toArray⟩,.int .i64 (tailP l i).1])/\RS b s (tailP l i).2.1 w'/\w.grownBy w' (some b)):=fun i w hi h=>by rw [hl];exact tail_any b s i w hi h hs
 have CL:Hid (∀w,Calls Tryz.prog 46 #[] w fun e w'=>e=.returned (.agg #[.int .i64 0,.int .i64 0,.int .i64 0,.string ⟨#[48]⟩,.string ⟨#[]⟩])/\w.grownBy w' none):=low_any
 have HNL:Hid (∀i,i<=s.size->(rdNum l i).2.2<=s.size):=fun i hi=>by have:=num_le l i (by rw [hll];exact hi);rw [hll] at this;exact this
 have HDL:Hid (∀i,l[i]?=some 46->i+1<=s.size):=fun i hc=>by have:=dot_lt hc;rw [hll] at this;exact this
 have HI:Hid (RS b s i w):=h
 have HIi:Hid (i<=s.size):=hi
 have HBb:Hid (b < w.heap.size):=by obtain ⟨t,h⟩:=h;exact (Array.getElem?_eq_some_iff.1 h).1
 clear hl hll hR h hs hi
 go_enter Tryz.func108,Tryz.ntmps108
 go_wp2_with (first | (go_at_call 46;refine (CL.out _).mono ?_))
 rintro e w1 ⟨rfl,hg⟩
 obtain ⟨A,hA⟩:∃A,w.heap.size=A:=⟨_,rfl⟩
 have HP0:Hid (PB A 0 0 0 ⟨#[]⟩ 0 w1):=by
  refine PB.grow ?_ hg
  unfold PB
  rw [<-hA];exact heap_alloc_new w _
 have HG:Hid (w.grownBy w1 none):=gb_trans (gb_alloc (gb_refl w none) _) hg
 have HA:Hid (w.heap.size<=A/\b < A/\A < w1.heap.size):=⟨Nat.le_of_eq hA,by rw [<-hA];exact HBb.out,(Array.getElem?_eq_some_iff.1 HP0.out).1⟩
 try rw [hA]
 clear hA hg
 obtain ⟨C,hC⟩:∃C,w1.heap.size=C:=⟨_,rfl⟩
 go_wp2_with (first | (go_at_call 132;refine (numbersOf_any _ _ (by simp;omega)).mono ?_))
 rintro e w2 ⟨rfl,hg⟩
 have HPC:Hid (PB C 0 0 0 ⟨#[48]⟩ 0 w2):=by
  refine PB.grow ?_ hg
  unfold PB
  rw [<-hC];exact heap_alloc_new w1 _
 replace HP0:Hid (PB A 0 0 0 ⟨#[]⟩ 0 w2):=(HP0.out.grow (gb_alloc (gb_refl w1 none) _)).grow hg
 replace HG:Hid (w.grownBy w2 none):=gb_trans HG.out (gb_trans (gb_alloc (gb_refl w1 none) _) hg)
 replace HA:Hid (w.heap.size<=A/\b < A/\A < C):=⟨HA.out.1,HA.out.2.1,by rw [<-hC];exact HA.out.2.2⟩
 replace HI:Hid (RS b s i w2):=HI.out.grow HG.out
 try rw [hC]
 clear hC hg
 have HBC:Hid (b ≠ C/\b ≠ A/\C ≠ A/\A ≠ C/\C ≠ b/\A ≠ b):=by have:=HA.out;refine ⟨?_,?_,?_,?_,?_,?_⟩ <;> omega
 have HWC:Hid (w.heap.size<=C/\w.heap.size<=A):=by have:=HA.out;exact ⟨by omega,this.1⟩
 have END:Hid (∀(W:World) (j:Nat) (y1 y2 y3:Int) (P:ByteArray) (n E:Int),RS b s j W->PB A 0 0 0 ⟨#[]⟩ 0 W->w.grownBy W (some b)->E=R.1->j=R.2.1->(E=0->paAgg y1 y2 y3 P n=paVal R.2.2)->PB A y1 y2 y3 P n (put6 W A y1 y2 y3 P n)/\PaPost b s R w (.returned (.tuple #[.agg #[.int .i64 y1,.int .i64 y2,.int .i64 y3,.string P,.string ⟨#[]⟩,.int .i64 n],.int .i64 E])) (put6 W A y1 y2 y3 P n)):=by
  intro W j y1 y2 y3 P n E h1 h2 h3 h4 h5 h6
  subst h4 h5
  exact ⟨put6_row h2 _ _ _ _ _,y1,y2,y3,P,n,rfl,put6_rs h1 HBC.out.2.1 _ _ _ _ _,put6_gb h3 HWC.out.2 _ _ _ _ _,h6⟩
 go_wp2
 go_loopw [13] (fun vi wr=>∃(k j:Nat) (x1 x2 x3 n:Int),vi=.int .i64 k/\j<=s.size/\RS b s j wr/\PB C x1 x2 x3 ⟨#[48]⟩ n wr/\PB A 0 0 0 ⟨#[]⟩ 0 wr/\w.grownBy wr (some b)/\((k=0/\j=i/\x1=0/\x2=0/\x3=0/\n=0)\/(k=1/\R=pa1 l j x1/\x2=0/\x3=0/\n=1)\/(k=2/\R=pa2 l j x1 x2/\x3=0/\n=2)\/(k=3/\R=pa3 l j x1 x2 x3/\n=3))) (fun vi _=>3 - (intOf vi).toNat)
 case atStart=>exact ⟨0,i,0,0,0,0,rfl,HIi.out,HI.out,HPC.out,HP0.out,gb_weak HG.out _,Or.inl ⟨rfl,rfl,rfl,rfl,rfl,rfl⟩⟩
 case round =>
  obtain ⟨k,j,x1,x2,x3,n,rfl,hj,hrs,hpc,hpa,hg,hcase⟩:=hrel
  clear HI HPC HP0 HG
  have HJ:Hid (j<=s.size):=hj
  have HRS:Hid (RS b s j wr):=hrs
  have HPC:Hid (PB C x1 x2 x3 ⟨#[48]⟩ n wr):=hpc
  have HPA:Hid (PB A 0 0 0 ⟨#[]⟩ 0 wr):=hpa
  have HG:Hid (w.grownBy wr (some b)):=hg
  clear hj hrs hpc hpa hg
  rcases hcase with ⟨rfl,rfl,rfl,rfl,rfl,rfl⟩ | ⟨rfl,hrk,rfl,rfl,rfl⟩ | ⟨rfl,hrk,rfl,rfl⟩ | ⟨rfl,hrk,rfl⟩
  ·have ix:=jp0 C wr
   have HJn:Hid (j<=s.size):=HJ.out
   have HRk:Hid (R=if wildAt l j=true then (0,j+1,pa0) else if (rdNum l j).1=0 then pa1 l (rdNum l j).2.2 (rdNum l j).2.1 else ((rdNum l j).1,(rdNum l j).2.2,pa0)):=HR.out
   clear HR
   cases hw:wildAt l j with
   | true =>
    have HZ:Hid (R=(0,j+1,⟨0,0,0,0,[]⟩)):=by show R=_;rw [HRk.out,if_pos hw];rfl
    have CW1:Hid (∀w,RS b s (j) w->Calls Tryz.prog 133 #[.pointer (some ⟨b,0,none⟩)] w fun e w'=>e=.returned (.bool true)/\RS b s (j+1) w'/\w.grownBy w' (some b)):=fun w h=>by have:=CW.out (j) w HJn.out h;rw [hw] at this;exact this
    clear hw
    go_wp2_with (first | (go_at_call 133;refine (CW1.out _ HRS.out).mono ?_))
    rintro e u1 ⟨rfl,hr,hg⟩
    replace HRS:Hid (RS b s (j+1) u1):=hr
    replace HPC:Hid (PB C 0 0 0 ⟨#[48]⟩ 0 u1):=HPC.out.growb hg HBC.out.2.2.2.2.1
    replace HPA:Hid (PB A 0 0 0 ⟨#[]⟩ 0 u1):=HPA.out.growb hg HBC.out.2.2.2.2.2
    replace HG:Hid (w.grownBy u1 (some b)):=gb_trans HG.out hg
    clear hr hg
    obtain ⟨a0,a1,a2,a3,a4,a5⟩:=HPA.out.cells
    have af:=HPA.out.f
    obtain ⟨c0,c1,c2,c3,c4,c5⟩:=HPC.out.cells
    have cf:=HPC.out.f
    obtain ⟨n1,n2,n3,n4,n5,n6⟩:=HBC.out
    go_wp2
    obtain ⟨hrow,hpost⟩:=END.out u1 (j+1) 0 0 0 ⟨#[48]⟩ 0 0 HRS.out HPA.out HG.out (by rw [HZ.out]) (by rw [HZ.out]) (fun _=>by rw [HZ.out];rfl)
    exact bodyPost_ret (res_row_tmp (p:=2) (u:=3) rfl _ _ A _ _ (0,0) _ rfl hrow Tryz.underlying145 rfl (by kernel_rfl)) rfl hpost
   | false =>
    have HRn:Hid (R=if (rdNum l (j)).1=0 then pa1 l (rdNum l (j)).2.2 (rdNum l (j)).2.1 else ((rdNum l (j)).1,(rdNum l (j)).2.2,pa0)):=by show R=_;rw [HRk.out,if_neg (by rw [hw];decide)]
    have CW1:Hid (∀w,RS b s (j) w->Calls Tryz.prog 133 #[.pointer (some ⟨b,0,none⟩)] w fun e w'=>e=.returned (.bool false)/\RS b s (j) w'/\w.grownBy w' (some b)):=fun w h=>by have:=CW.out (j) w HJn.out h;rw [hw] at this;exact this
    have CNJ:Hid (∀w,RS b s (j) w->Calls Tryz.prog 134 #[.pointer (some ⟨b,0,none⟩)] w fun e w'=>e=.returned (.tuple #[.int .i64 (rdNum l (j)).2.1,.int .i64 (rdNum l (j)).1])/\RS b s (rdNum l (j)).2.2 w'/\w.grownBy w' (some b)):=fun w h=>CN.out (j) w HJn.out h
    have HLq:Hid ((rdNum l (j)).2.2<=s.size):=HNL.out (j) HJn.out
    obtain ⟨E,hE⟩:∃E,(rdNum l (j)).1=E:=⟨_,rfl⟩
    obtain ⟨V,hV⟩:∃V,(rdNum l (j)).2.1=V:=⟨_,rfl⟩
    obtain ⟨Q,hQ⟩:∃Q,(rdNum l (j)).2.2=Q:=⟨_,rfl⟩
    rw [hE,hV,hQ] at CNJ HRn
    rw [hQ] at HLq
    clear hE hV hQ hw
    go_wp2_with (first | (go_at_call 133;refine (CW1.out _ HRS.out).mono ?_))
    rintro e u1 ⟨rfl,hr,hg⟩
    replace HRS:Hid (RS b s (j) u1):=hr
    replace HPC:Hid (PB C 0 0 0 ⟨#[48]⟩ 0 u1):=HPC.out.growb hg HBC.out.2.2.2.2.1
    replace HPA:Hid (PB A 0 0 0 ⟨#[]⟩ 0 u1):=HPA.out.growb hg HBC.out.2.2.2.2.2
    replace HG:Hid (w.grownBy u1 (some b)):=gb_trans HG.out hg
    clear hr hg
    go_wp2_with (first | (go_at_call 134;refine (CNJ.out _ HRS.out).mono ?_))
    rintro e u2 ⟨rfl,hr,hg⟩
    replace HRS:Hid (RS b s (Q) u2):=hr
    replace HPC:Hid (PB C 0 0 0 ⟨#[48]⟩ 0 u2):=HPC.out.growb hg HBC.out.2.2.2.2.1
    replace HPA:Hid (PB A 0 0 0 ⟨#[]⟩ 0 u2):=HPA.out.growb hg HBC.out.2.2.2.2.2
    replace HG:Hid (w.grownBy u2 (some b)):=gb_trans HG.out hg
    clear hr hg
    cases hz:(E == 0) with
    | false =>
     have HZ:Hid (R=(E,Q,pa0)):=by show R=_;rw [HRn.out,if_neg (by simpa using hz)]
     have HE0:Hid (E ≠ 0):=by show E ≠ 0;simpa using hz
     obtain ⟨a0,a1,a2,a3,a4,a5⟩:=HPA.out.cells
     have af:=HPA.out.f
     obtain ⟨c0,c1,c2,c3,c4,c5⟩:=HPC.out.cells
     have cf:=HPC.out.f
     obtain ⟨n1,n2,n3,n4,n5,n6⟩:=HBC.out
     go_wp2
     obtain ⟨hrow,hpost⟩:=END.out (u2.setCell ⟨C,0,none⟩ (.int .i64 V)) Q 0 0 0 ⟨#[]⟩ 0 E (HRS.out.other HBC.out.1 _ _) (HPA.out.other HBC.out.2.2.2.1 _ _) (gb_new HG.out HWC.out.1 _ _) (by rw [HZ.out]) (by rw [HZ.out]) (fun h=>absurd h HE0.out)
     exact bodyPost_ret (res_row_tmp (p:=2) (u:=3) rfl _ _ A _ _ (0,0) _ rfl hrow Tryz.underlying145 rfl (by kernel_rfl)) rfl hpost
    | true =>
     have HZ:Hid (R=pa1 l Q V):=by show R=_;rw [HRn.out,if_pos (by simpa using hz)]
     obtain ⟨c0,c1,c2,c3,c4,c5⟩:=HPC.out.cells
     have cf:=HPC.out.f
     go_wp2
     go_roundw
     case rel=>exact ⟨1,Q,V,0,0,1,rfl,HLq.out,(HRS.out.other HBC.out.1 _ _).other HBC.out.1 _ _,(HPC.out.set0 V).set5 1,(HPA.out.other HBC.out.2.2.2.1 _ _).other HBC.out.2.2.2.1 _ _,gb_new (gb_new HG.out HWC.out.1 _ _) HWC.out.1 _ _,Or.inr (Or.inl ⟨rfl,HZ.out,rfl,rfl,rfl⟩)⟩
     case measure=>simp [intOf]
  ·have ix:=jp1 C wr
   have HRr:Hid (R=pa1 l j x1):=hrk
   clear hrk HR
   cases hc:decide (l[j]?=some 46) with
   | false =>
    have hc':=of_decide_eq_false hc
    have HZ:Hid (R=(0,j,⟨1,x1,0,0,[]⟩)):=by show R=_;rw [HRr.out];unfold pa1;rw [if_neg hc']
    have CT1:Hid (∀w,RS b s j w->Calls Tryz.prog 60 #[.pointer (some ⟨b,0,none⟩),.string ⟨#[46]⟩] w fun e w'=>e=.returned (.bool false)/\RS b s j w'/\w.grownBy w' (some b)):=fun w h=>TN.out j w HJ.out hc' h
    clear hc hc'
    go_wp2_with (first | (go_at_call 60;refine (CT1.out _ HRS.out).mono ?_))
    rintro e u1 ⟨rfl,hr,hg⟩
    replace HRS:Hid (RS b s (j) u1):=hr
    replace HPC:Hid (PB C x1 0 0 ⟨#[48]⟩ 1 u1):=HPC.out.growb hg HBC.out.2.2.2.2.1
    replace HPA:Hid (PB A 0 0 0 ⟨#[]⟩ 0 u1):=HPA.out.growb hg HBC.out.2.2.2.2.2
    replace HG:Hid (w.grownBy u1 (some b)):=gb_trans HG.out hg
    clear hr hg
    obtain ⟨a0,a1,a2,a3,a4,a5⟩:=HPA.out.cells
    have af:=HPA.out.f
    obtain ⟨c0,c1,c2,c3,c4,c5⟩:=HPC.out.cells
    have cf:=HPC.out.f
    obtain ⟨n1,n2,n3,n4,n5,n6⟩:=HBC.out
    go_wp2
    obtain ⟨hrow,hpost⟩:=END.out u1 j x1 0 0 ⟨#[48]⟩ 1 0 HRS.out HPA.out HG.out (by rw [HZ.out]) (by rw [HZ.out]) (fun _=>by rw [HZ.out];rfl)
    exact bodyPost_ret (res_row_tmp (p:=2) (u:=3) rfl _ _ A _ _ (0,0) _ rfl hrow Tryz.underlying145 rfl (by kernel_rfl)) rfl hpost
   | true =>
    have hc':=of_decide_eq_true hc
    have HRk:Hid (R=if wildAt l (j+1)=true then (0,j+1+1,⟨1,x1,0,0,[]⟩) else if (rdNum l (j+1)).1=0 then pa2 l (rdNum l (j+1)).2.2 x1 (rdNum l (j+1)).2.1 else ((rdNum l (j+1)).1,(rdNum l (j+1)).2.2,pa0)):=by show R=_;rw [HRr.out];unfold pa1;rw [if_pos hc']
    have CT1:Hid (∀w,RS b s j w->Calls Tryz.prog 60 #[.pointer (some ⟨b,0,none⟩),.string ⟨#[46]⟩] w fun e w'=>e=.returned (.bool true)/\RS b s (j+1) w'/\w.grownBy w' (some b)):=fun w h=>TY.out j w hc' h
    have HJn:Hid (j+1<=s.size):=HDL.out j hc'
    clear hc hc'
    go_wp2_with (first | (go_at_call 60;refine (CT1.out _ HRS.out).mono ?_))
    rintro e u0 ⟨rfl,hr,hg⟩
    replace HRS:Hid (RS b s (j+1) u0):=hr
    replace HPC:Hid (PB C x1 0 0 ⟨#[48]⟩ 1 u0):=HPC.out.growb hg HBC.out.2.2.2.2.1
    replace HPA:Hid (PB A 0 0 0 ⟨#[]⟩ 0 u0):=HPA.out.growb hg HBC.out.2.2.2.2.2
    replace HG:Hid (w.grownBy u0 (some b)):=gb_trans HG.out hg
    clear hr hg
    cases hw:wildAt l (j+1) with
    | true =>
     have HZ:Hid (R=(0,(j+1)+1,⟨1,x1,0,0,[]⟩)):=by show R=_;rw [HRk.out,if_pos hw]
     have CW1:Hid (∀w,RS b s ((j+1)) w->Calls Tryz.prog 133 #[.pointer (some ⟨b,0,none⟩)] w fun e w'=>e=.returned (.bool true)/\RS b s ((j+1)+1) w'/\w.grownBy w' (some b)):=fun w h=>by have:=CW.out ((j+1)) w HJn.out h;rw [hw] at this;exact this
     clear hw
     go_wp2_with (first | (go_at_call 133;refine (CW1.out _ HRS.out).mono ?_))
     rintro e u1 ⟨rfl,hr,hg⟩
     replace HRS:Hid (RS b s ((j+1)+1) u1):=hr
     replace HPC:Hid (PB C x1 0 0 ⟨#[48]⟩ 1 u1):=HPC.out.growb hg HBC.out.2.2.2.2.1
     replace HPA:Hid (PB A 0 0 0 ⟨#[]⟩ 0 u1):=HPA.out.growb hg HBC.out.2.2.2.2.2
     replace HG:Hid (w.grownBy u1 (some b)):=gb_trans HG.out hg
     clear hr hg
     obtain ⟨a0,a1,a2,a3,a4,a5⟩:=HPA.out.cells
     have af:=HPA.out.f
     obtain ⟨c0,c1,c2,c3,c4,c5⟩:=HPC.out.cells
     have cf:=HPC.out.f
     obtain ⟨n1,n2,n3,n4,n5,n6⟩:=HBC.out
     go_wp2
     obtain ⟨hrow,hpost⟩:=END.out u1 ((j+1)+1) x1 0 0 ⟨#[48]⟩ 1 0 HRS.out HPA.out HG.out (by rw [HZ.out]) (by rw [HZ.out]) (fun _=>by rw [HZ.out];rfl)
     exact bodyPost_ret (res_row_tmp (p:=2) (u:=3) rfl _ _ A _ _ (0,0) _ rfl hrow Tryz.underlying145 rfl (by kernel_rfl)) rfl hpost
    | false =>
     have HRn:Hid (R=if (rdNum l ((j+1))).1=0 then pa2 l (rdNum l ((j+1))).2.2 x1 (rdNum l ((j+1))).2.1 else ((rdNum l ((j+1))).1,(rdNum l ((j+1))).2.2,pa0)):=by show R=_;rw [HRk.out,if_neg (by rw [hw];decide)]
     have CW1:Hid (∀w,RS b s ((j+1)) w->Calls Tryz.prog 133 #[.pointer (some ⟨b,0,none⟩)] w fun e w'=>e=.returned (.bool false)/\RS b s ((j+1)) w'/\w.grownBy w' (some b)):=fun w h=>by have:=CW.out ((j+1)) w HJn.out h;rw [hw] at this;exact this
     have CNJ:Hid (∀w,RS b s ((j+1)) w->Calls Tryz.prog 134 #[.pointer (some ⟨b,0,none⟩)] w fun e w'=>e=.returned (.tuple #[.int .i64 (rdNum l ((j+1))).2.1,.int .i64 (rdNum l ((j+1))).1])/\RS b s (rdNum l ((j+1))).2.2 w'/\w.grownBy w' (some b)):=fun w h=>CN.out ((j+1)) w HJn.out h
     have HLq:Hid ((rdNum l ((j+1))).2.2<=s.size):=HNL.out ((j+1)) HJn.out
     obtain ⟨E,hE⟩:∃E,(rdNum l ((j+1))).1=E:=⟨_,rfl⟩
     obtain ⟨V,hV⟩:∃V,(rdNum l ((j+1))).2.1=V:=⟨_,rfl⟩
     obtain ⟨Q,hQ⟩:∃Q,(rdNum l ((j+1))).2.2=Q:=⟨_,rfl⟩
     rw [hE,hV,hQ] at CNJ HRn
     rw [hQ] at HLq
     clear hE hV hQ hw
     go_wp2_with (first | (go_at_call 133;refine (CW1.out _ HRS.out).mono ?_))
     rintro e u1 ⟨rfl,hr,hg⟩
     replace HRS:Hid (RS b s ((j+1)) u1):=hr
     replace HPC:Hid (PB C x1 0 0 ⟨#[48]⟩ 1 u1):=HPC.out.growb hg HBC.out.2.2.2.2.1
     replace HPA:Hid (PB A 0 0 0 ⟨#[]⟩ 0 u1):=HPA.out.growb hg HBC.out.2.2.2.2.2
     replace HG:Hid (w.grownBy u1 (some b)):=gb_trans HG.out hg
     clear hr hg
     go_wp2_with (first | (go_at_call 134;refine (CNJ.out _ HRS.out).mono ?_))
     rintro e u2 ⟨rfl,hr,hg⟩
     replace HRS:Hid (RS b s (Q) u2):=hr
     replace HPC:Hid (PB C x1 0 0 ⟨#[48]⟩ 1 u2):=HPC.out.growb hg HBC.out.2.2.2.2.1
     replace HPA:Hid (PB A 0 0 0 ⟨#[]⟩ 0 u2):=HPA.out.growb hg HBC.out.2.2.2.2.2
     replace HG:Hid (w.grownBy u2 (some b)):=gb_trans HG.out hg
     clear hr hg
     cases hz:(E == 0) with
     | false =>
      have HZ:Hid (R=(E,Q,pa0)):=by show R=_;rw [HRn.out,if_neg (by simpa using hz)]
      have HE0:Hid (E ≠ 0):=by show E ≠ 0;simpa using hz
      obtain ⟨a0,a1,a2,a3,a4,a5⟩:=HPA.out.cells
      have af:=HPA.out.f
      obtain ⟨c0,c1,c2,c3,c4,c5⟩:=HPC.out.cells
      have cf:=HPC.out.f
      obtain ⟨n1,n2,n3,n4,n5,n6⟩:=HBC.out
      go_wp2
      obtain ⟨hrow,hpost⟩:=END.out (u2.setCell ⟨C,1,none⟩ (.int .i64 V)) Q 0 0 0 ⟨#[]⟩ 0 E (HRS.out.other HBC.out.1 _ _) (HPA.out.other HBC.out.2.2.2.1 _ _) (gb_new HG.out HWC.out.1 _ _) (by rw [HZ.out]) (by rw [HZ.out]) (fun h=>absurd h HE0.out)
      exact bodyPost_ret (res_row_tmp (p:=2) (u:=3) rfl _ _ A _ _ (0,0) _ rfl hrow Tryz.underlying145 rfl (by kernel_rfl)) rfl hpost
     | true =>
      have HZ:Hid (R=pa2 l Q x1 V):=by show R=_;rw [HRn.out,if_pos (by simpa using hz)]
      obtain ⟨c0,c1,c2,c3,c4,c5⟩:=HPC.out.cells
      have cf:=HPC.out.f
      go_wp2
      go_roundw
      case rel=>exact ⟨2,Q,x1,V,0,2,rfl,HLq.out,(HRS.out.other HBC.out.1 _ _).other HBC.out.1 _ _,(HPC.out.set1 V).set5 2,(HPA.out.other HBC.out.2.2.2.1 _ _).other HBC.out.2.2.2.1 _ _,gb_new (gb_new HG.out HWC.out.1 _ _) HWC.out.1 _ _,Or.inr (Or.inr (Or.inl ⟨rfl,HZ.out,rfl,rfl⟩))⟩
      case measure=>simp [intOf]
  ·have ix:=jp2 C wr
   have HRr:Hid (R=pa2 l j x1 x2):=hrk
   clear hrk HR
   cases hc:decide (l[j]?=some 46) with
   | false =>
    have hc':=of_decide_eq_false hc
    have HZ:Hid (R=(0,j,⟨2,x1,x2,0,[]⟩)):=by show R=_;rw [HRr.out];unfold pa2;rw [if_neg hc']
    have CT1:Hid (∀w,RS b s j w->Calls Tryz.prog 60 #[.pointer (some ⟨b,0,none⟩),.string ⟨#[46]⟩] w fun e w'=>e=.returned (.bool false)/\RS b s j w'/\w.grownBy w' (some b)):=fun w h=>TN.out j w HJ.out hc' h
    clear hc hc'
    go_wp2_with (first | (go_at_call 60;refine (CT1.out _ HRS.out).mono ?_))
    rintro e u1 ⟨rfl,hr,hg⟩
    replace HRS:Hid (RS b s (j) u1):=hr
    replace HPC:Hid (PB C x1 x2 0 ⟨#[48]⟩ 2 u1):=HPC.out.growb hg HBC.out.2.2.2.2.1
    replace HPA:Hid (PB A 0 0 0 ⟨#[]⟩ 0 u1):=HPA.out.growb hg HBC.out.2.2.2.2.2
    replace HG:Hid (w.grownBy u1 (some b)):=gb_trans HG.out hg
    clear hr hg
    obtain ⟨a0,a1,a2,a3,a4,a5⟩:=HPA.out.cells
    have af:=HPA.out.f
    obtain ⟨c0,c1,c2,c3,c4,c5⟩:=HPC.out.cells
    have cf:=HPC.out.f
    obtain ⟨n1,n2,n3,n4,n5,n6⟩:=HBC.out
    go_wp2
    obtain ⟨hrow,hpost⟩:=END.out u1 j x1 x2 0 ⟨#[48]⟩ 2 0 HRS.out HPA.out HG.out (by rw [HZ.out]) (by rw [HZ.out]) (fun _=>by rw [HZ.out];rfl)
    exact bodyPost_ret (res_row_tmp (p:=2) (u:=3) rfl _ _ A _ _ (0,0) _ rfl hrow Tryz.underlying145 rfl (by kernel_rfl)) rfl hpost
   | true =>
    have hc':=of_decide_eq_true hc
    have HRk:Hid (R=if wildAt l (j+1)=true then (0,j+1+1,⟨2,x1,x2,0,[]⟩) else if (rdNum l (j+1)).1=0 then pa3 l (rdNum l (j+1)).2.2 x1 x2 (rdNum l (j+1)).2.1 else ((rdNum l (j+1)).1,(rdNum l (j+1)).2.2,pa0)):=by show R=_;rw [HRr.out];unfold pa2;rw [if_pos hc']
    have CT1:Hid (∀w,RS b s j w->Calls Tryz.prog 60 #[.pointer (some ⟨b,0,none⟩),.string ⟨#[46]⟩] w fun e w'=>e=.returned (.bool true)/\RS b s (j+1) w'/\w.grownBy w' (some b)):=fun w h=>TY.out j w hc' h
    have HJn:Hid (j+1<=s.size):=HDL.out j hc'
    clear hc hc'
    go_wp2_with (first | (go_at_call 60;refine (CT1.out _ HRS.out).mono ?_))
    rintro e u0 ⟨rfl,hr,hg⟩
    replace HRS:Hid (RS b s (j+1) u0):=hr
    replace HPC:Hid (PB C x1 x2 0 ⟨#[48]⟩ 2 u0):=HPC.out.growb hg HBC.out.2.2.2.2.1
    replace HPA:Hid (PB A 0 0 0 ⟨#[]⟩ 0 u0):=HPA.out.growb hg HBC.out.2.2.2.2.2
    replace HG:Hid (w.grownBy u0 (some b)):=gb_trans HG.out hg
    clear hr hg
    cases hw:wildAt l (j+1) with
    | true =>
     have HZ:Hid (R=(0,(j+1)+1,⟨2,x1,x2,0,[]⟩)):=by show R=_;rw [HRk.out,if_pos hw]
     have CW1:Hid (∀w,RS b s ((j+1)) w->Calls Tryz.prog 133 #[.pointer (some ⟨b,0,none⟩)] w fun e w'=>e=.returned (.bool true)/\RS b s ((j+1)+1) w'/\w.grownBy w' (some b)):=fun w h=>by have:=CW.out ((j+1)) w HJn.out h;rw [hw] at this;exact this
     clear hw
     go_wp2_with (first | (go_at_call 133;refine (CW1.out _ HRS.out).mono ?_))
     rintro e u1 ⟨rfl,hr,hg⟩
     replace HRS:Hid (RS b s ((j+1)+1) u1):=hr
     replace HPC:Hid (PB C x1 x2 0 ⟨#[48]⟩ 2 u1):=HPC.out.growb hg HBC.out.2.2.2.2.1
     replace HPA:Hid (PB A 0 0 0 ⟨#[]⟩ 0 u1):=HPA.out.growb hg HBC.out.2.2.2.2.2
     replace HG:Hid (w.grownBy u1 (some b)):=gb_trans HG.out hg
     clear hr hg
     obtain ⟨a0,a1,a2,a3,a4,a5⟩:=HPA.out.cells
     have af:=HPA.out.f
     obtain ⟨c0,c1,c2,c3,c4,c5⟩:=HPC.out.cells
     have cf:=HPC.out.f
     obtain ⟨n1,n2,n3,n4,n5,n6⟩:=HBC.out
     go_wp2
     obtain ⟨hrow,hpost⟩:=END.out u1 ((j+1)+1) x1 x2 0 ⟨#[48]⟩ 2 0 HRS.out HPA.out HG.out (by rw [HZ.out]) (by rw [HZ.out]) (fun _=>by rw [HZ.out];rfl)
     exact bodyPost_ret (res_row_tmp (p:=2) (u:=3) rfl _ _ A _ _ (0,0) _ rfl hrow Tryz.underlying145 rfl (by kernel_rfl)) rfl hpost
    | false =>
     have HRn:Hid (R=if (rdNum l ((j+1))).1=0 then pa3 l (rdNum l ((j+1))).2.2 x1 x2 (rdNum l ((j+1))).2.1 else ((rdNum l ((j+1))).1,(rdNum l ((j+1))).2.2,pa0)):=by show R=_;rw [HRk.out,if_neg (by rw [hw];decide)]
     have CW1:Hid (∀w,RS b s ((j+1)) w->Calls Tryz.prog 133 #[.pointer (some ⟨b,0,none⟩)] w fun e w'=>e=.returned (.bool false)/\RS b s ((j+1)) w'/\w.grownBy w' (some b)):=fun w h=>by have:=CW.out ((j+1)) w HJn.out h;rw [hw] at this;exact this
     have CNJ:Hid (∀w,RS b s ((j+1)) w->Calls Tryz.prog 134 #[.pointer (some ⟨b,0,none⟩)] w fun e w'=>e=.returned (.tuple #[.int .i64 (rdNum l ((j+1))).2.1,.int .i64 (rdNum l ((j+1))).1])/\RS b s (rdNum l ((j+1))).2.2 w'/\w.grownBy w' (some b)):=fun w h=>CN.out ((j+1)) w HJn.out h
     have HLq:Hid ((rdNum l ((j+1))).2.2<=s.size):=HNL.out ((j+1)) HJn.out
     obtain ⟨E,hE⟩:∃E,(rdNum l ((j+1))).1=E:=⟨_,rfl⟩
     obtain ⟨V,hV⟩:∃V,(rdNum l ((j+1))).2.1=V:=⟨_,rfl⟩
     obtain ⟨Q,hQ⟩:∃Q,(rdNum l ((j+1))).2.2=Q:=⟨_,rfl⟩
     rw [hE,hV,hQ] at CNJ HRn
     rw [hQ] at HLq
     clear hE hV hQ hw
     go_wp2_with (first | (go_at_call 133;refine (CW1.out _ HRS.out).mono ?_))
     rintro e u1 ⟨rfl,hr,hg⟩
     replace HRS:Hid (RS b s ((j+1)) u1):=hr
     replace HPC:Hid (PB C x1 x2 0 ⟨#[48]⟩ 2 u1):=HPC.out.growb hg HBC.out.2.2.2.2.1
     replace HPA:Hid (PB A 0 0 0 ⟨#[]⟩ 0 u1):=HPA.out.growb hg HBC.out.2.2.2.2.2
     replace HG:Hid (w.grownBy u1 (some b)):=gb_trans HG.out hg
     clear hr hg
     go_wp2_with (first | (go_at_call 134;refine (CNJ.out _ HRS.out).mono ?_))
     rintro e u2 ⟨rfl,hr,hg⟩
     replace HRS:Hid (RS b s (Q) u2):=hr
     replace HPC:Hid (PB C x1 x2 0 ⟨#[48]⟩ 2 u2):=HPC.out.growb hg HBC.out.2.2.2.2.1
     replace HPA:Hid (PB A 0 0 0 ⟨#[]⟩ 0 u2):=HPA.out.growb hg HBC.out.2.2.2.2.2
     replace HG:Hid (w.grownBy u2 (some b)):=gb_trans HG.out hg
     clear hr hg
     cases hz:(E == 0) with
     | false =>
      have HZ:Hid (R=(E,Q,pa0)):=by show R=_;rw [HRn.out,if_neg (by simpa using hz)]
      have HE0:Hid (E ≠ 0):=by show E ≠ 0;simpa using hz
      obtain ⟨a0,a1,a2,a3,a4,a5⟩:=HPA.out.cells
      have af:=HPA.out.f
      obtain ⟨c0,c1,c2,c3,c4,c5⟩:=HPC.out.cells
      have cf:=HPC.out.f
      obtain ⟨n1,n2,n3,n4,n5,n6⟩:=HBC.out
      go_wp2
      obtain ⟨hrow,hpost⟩:=END.out (u2.setCell ⟨C,2,none⟩ (.int .i64 V)) Q 0 0 0 ⟨#[]⟩ 0 E (HRS.out.other HBC.out.1 _ _) (HPA.out.other HBC.out.2.2.2.1 _ _) (gb_new HG.out HWC.out.1 _ _) (by rw [HZ.out]) (by rw [HZ.out]) (fun h=>absurd h HE0.out)
      exact bodyPost_ret (res_row_tmp (p:=2) (u:=3) rfl _ _ A _ _ (0,0) _ rfl hrow Tryz.underlying145 rfl (by kernel_rfl)) rfl hpost
     | true =>
      have HZ:Hid (R=pa3 l Q x1 x2 V):=by show R=_;rw [HRn.out,if_pos (by simpa using hz)]
      obtain ⟨c0,c1,c2,c3,c4,c5⟩:=HPC.out.cells
      have cf:=HPC.out.f
      go_wp2
      go_roundw
      case rel=>exact ⟨3,Q,x1,x2,V,3,rfl,HLq.out,(HRS.out.other HBC.out.1 _ _).other HBC.out.1 _ _,(HPC.out.set2 V).set5 3,(HPA.out.other HBC.out.2.2.2.1 _ _).other HBC.out.2.2.2.1 _ _,gb_new (gb_new HG.out HWC.out.1 _ _) HWC.out.1 _ _,Or.inr (Or.inr (Or.inr ⟨rfl,HZ.out,rfl⟩))⟩
      case measure=>simp [intOf]
  ·have HRr:Hid (R=pa3 l j x1 x2 x3):=hrk
   clear hrk HR
   have CTJ:Hid (∀w,RS b s j w->Calls Tryz.prog 135 #[.pointer (some ⟨b,0,none⟩)] w fun e w'=>e=.returned (.tuple #[.string ⟨(tailP l j).2.2.1.toArray⟩,.string ⟨(tailP l j).2.2.2.toArray⟩,.int .i64 (tailP l j).1])/\RS b s (tailP l j).2.1 w'/\w.grownBy w' (some b)):=fun w h=>CT.out j w HJ.out h
   have HRt:Hid (R=if (tailP l j).1=0 then (0,(tailP l j).2.1,⟨3,x1,x2,x3,(tailP l j).2.2.1⟩) else ((tailP l j).1,(tailP l j).2.1,pa0)):=HRr.out
   obtain ⟨E,Q,P,B,hT⟩:∃E Q P B,tailP l j=(E,Q,P,B):=⟨_,_,_,_,rfl⟩
   rw [hT] at CTJ HRt
   clear hT
   go_wp2_with (first | (go_at_call 135;refine (CTJ.out _ HRS.out).mono ?_))
   rintro e u1 rfl hr hg
   replace HRS:Hid (RS b s (Q) u1):=hr
   replace HPC:Hid (PB C x1 x2 x3 ⟨#[48]⟩ 3 u1):=HPC.out.growb hg HBC.out.2.2.2.2.1
   replace HPA:Hid (PB A 0 0 0 ⟨#[]⟩ 0 u1):=HPA.out.growb hg HBC.out.2.2.2.2.2
   replace HG:Hid (w.grownBy u1 (some b)):=gb_trans HG.out hg
   clear hr hg
   obtain ⟨a0,a1,a2,a3,a4,a5⟩:=HPA.out.cells
   have af:=HPA.out.f
   obtain ⟨c0,c1,c2,c3,c4,c5⟩:=HPC.out.cells
   have cf:=HPC.out.f
   obtain ⟨n1,n2,n3,n4,n5,n6⟩:=HBC.out
   have HZ:Hid (E=R.1/\Q=R.2.1/\(E=0->paAgg x1 x2 x3 ⟨P.toArray⟩ 3=paVal R.2.2)):=by
    have h:=HRt.out
    by_cases h0:E=0
    ·rw [if_pos h0] at h;rw [h];exact ⟨h0,rfl,fun _=>rfl⟩
    ·rw [if_neg h0] at h;rw [h];exact ⟨rfl,rfl,fun e=>absurd e h0⟩
   go_wp2
   obtain ⟨hrow,hpost⟩:=END.out (u1.setCell ⟨C,3,none⟩ (.string ⟨P.toArray⟩)) Q x1 x2 x3 ⟨P.toArray⟩ 3 E (HRS.out.other HBC.out.1 _ _) (HPA.out.other HBC.out.2.2.2.1 _ _) (gb_new HG.out HWC.out.1 _ _) HZ.out.1 HZ.out.2.1 (HZ.out.2.2)
   exact bodyPost_ret (res_row_tmp (p:=2) (u:=3) rfl _ _ A _ _ (0,0) _ rfl hrow Tryz.underlying145 rfl (by kernel_rfl)) rfl hpost
end Go.Proofs.YtonfldbigenfhaaGreatDoor
