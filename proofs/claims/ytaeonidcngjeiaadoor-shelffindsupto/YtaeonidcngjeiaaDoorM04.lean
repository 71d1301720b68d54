import Derived.Test.YtaeonidcngjeiaaDoorM03
import Derived.Test.YtaeonidcngjeiaaDoorM02
import Derived.Shelf.Strconv.Clone
import Derived.Test.YtaeonidcngjeiaaDoorProg
import Derived.Deep.RegionHeld3
namespace Go.Proofs.YtaeonidcngjeiaaDoor
open Go.RowKit
set_option linter.unusedVariables false
structure G2 (b v:Nat) (w w':World):Prop where
 os:w'.os=w.os
 tape:w'.tape=w.tape
 output:w'.output=w.output
 size:w.heap.size<=w'.heap.size
 block:∀k,k < w.heap.size->k ≠ b->k ≠ v->w'.heap[k]?=w.heap[k]?
theorem G2.refl (b v:Nat) (w:World):G2 b v w w:=⟨rfl,rfl,rfl,Nat.le_refl _,fun _ _ _ _=>rfl⟩
theorem G2.step {b v:Nat} {w w1 w2:World} (h:G2 b v w w1) (hg:w1.grownBy w2 (some b)):G2 b v w w2 :=
 ⟨hg.os.trans h.os,hg.tape.trans h.tape,hg.output.trans h.output,Nat.le_trans h.size hg.size,fun k hk h1 h2=>(hg.block k (Nat.lt_of_lt_of_le hk h.size) (by simpa using h1)).trans (h.block k hk h1 h2)⟩
theorem G2.drew {b v:Nat} {w w1:World} (h:G2 b v w w1) (n:Nat):G2 b v w (w1.drewN n):=⟨h.os,h.tape,h.output,h.size,h.block⟩
theorem G2.set {b v:Nat} {w w1:World} (h:G2 b v w w1) (o:Nat) (x:Value):G2 b v w (w1.setCell ⟨v,o,none⟩ x) :=
 ⟨h.os,h.tape,h.output,by simpa [World.setCell] using h.size,fun k hk h1 h2=>by rw [<-h.block k hk h1 h2];exact heap_setCell_other w1 _ k x (fun e=>h2 e)⟩
def VB (v:Nat) (x1 x2 x3:Int) (w:World):Prop:=w.heap[v]?=some (.cells #[.int .i64 x1,.int .i64 x2,.int .i64 x3,.string ⟨#[]⟩,.string ⟨#[]⟩] 39 (0,0))
theorem VB.cell {v:Nat} {x1 x2 x3:Int} {w:World} (h:VB v x1 x2 x3 w):w.cell? ⟨v,0,none⟩=some (.int .i64 x1)/\w.cell? ⟨v,1,none⟩=some (.int .i64 x2)/\w.cell? ⟨v,2,none⟩=some (.int .i64 x3) :=
 ⟨by rw [Lib.cell_of_heap h];rfl,by rw [Lib.cell_of_heap h];rfl,by rw [Lib.cell_of_heap h];rfl⟩
theorem VB.f {v:Nat} {x1 x2 x3:Int} {w:World} (h:VB v x1 x2 x3 w) (o:Nat):w.frozen? ⟨v,o,none⟩=false:=Lib.frozen_of_heap h o
theorem VB.grow {b v:Nat} {x1 x2 x3:Int} {w w':World} (h:VB v x1 x2 x3 w) (hg:w.grownBy w' (some b)) (hn:v ≠ b):VB v x1 x2 x3 w':=by
 unfold VB at h ⊢
 rw [hg.block v ((Array.getElem?_eq_some_iff.1 h).1) (by simpa using hn)];exact h
theorem VB.drew {v:Nat} {x1 x2 x3:Int} {w:World} (h:VB v x1 x2 x3 w) (n:Nat):VB v x1 x2 x3 (w.drewN n):=h
theorem VB.set0 {v:Nat} {x1 x2 x3:Int} {w:World} (h:VB v x1 x2 x3 w) (y:Int):VB v y x2 x3 (w.setCell ⟨v,0,none⟩ (.int .i64 y)):=by
 unfold VB at h ⊢;simp [World.setCell,Array.getElem?_modify,h]
theorem VB.set1 {v:Nat} {x1 x2 x3:Int} {w:World} (h:VB v x1 x2 x3 w) (y:Int):VB v x1 y x3 (w.setCell ⟨v,1,none⟩ (.int .i64 y)):=by
 unfold VB at h ⊢;simp [World.setCell,Array.getElem?_modify,h]
theorem VB.set2 {v:Nat} {x1 x2 x3:Int} {w:World} (h:VB v x1 x2 x3 w) (y:Int):VB v x1 x2 y (w.setCell ⟨v,2,none⟩ (.int .i64 y)):=by
 unfold VB at h ⊢;simp [World.setCell,Array.getElem?_modify,h]
theorem RS.other {b v:Nat} {s:ByteArray} {i:Nat} {w:World} (h:RS b s i w) (hn:b ≠ v) (o:Nat) (x:Value):RS b s i (w.setCell ⟨v,o,none⟩ x):=by
 obtain ⟨t,h⟩:=h
 exact ⟨t,by rw [<-h];exact heap_setCell_other w _ b x hn⟩
def rest3 (l:List UInt8) (j:Nat) (x1 x2 x3:Int):Int × Nat × Int × Int × Int:=(0,j,x1,x2,x3)
def rest2 (l:List UInt8) (j:Nat) (x1 x2:Int):Int × Nat × Int × Int × Int :=
 if l[j]?=some 46 then (if (rdNum l (j+1)).1=0 then rest3 l (rdNum l (j+1)).2.2 x1 x2 (rdNum l (j+1)).2.1 else ((rdNum l (j+1)).1,(rdNum l (j+1)).2.2,0,0,0)) else (2,j,0,0,0)
def rest1 (l:List UInt8) (j:Nat) (x1:Int):Int × Nat × Int × Int × Int :=
 if l[j]?=some 46 then (if (rdNum l (j+1)).1=0 then rest2 l (rdNum l (j+1)).2.2 x1 (rdNum l (j+1)).2.1 else ((rdNum l (j+1)).1,(rdNum l (j+1)).2.2,0,0,0)) else (2,j,0,0,0)
theorem nums_rest (l:List UInt8):rdNums l=if (rdNum l 0).1=0 then rest1 l (rdNum l 0).2.2 (rdNum l 0).2.1 else ((rdNum l 0).1,(rdNum l 0).2.2,0,0,0):=rfl
theorem num_le (l:List UInt8) (i:Nat) (hi:i<=l.length):(rdNum l i).2.2<=l.length:=by
 have:=runN_le isD l i hi
 unfold rdNum
 repeat' split
 all_goals first | exact hi | (simp only;omega)
theorem ip0 (v:Nat) (w:World):(Instr.index 115 (.agg #[.pointer (some ⟨v,0,none⟩),.pointer (some ⟨v,1,none⟩),.pointer (some ⟨v,2,none⟩)]) (.int .i64 0)).run Tryd.prog w=.ok (.pointer (some ⟨v,0,none⟩)) w:=by kernel_rfl
theorem ip1 (v:Nat) (w:World):(Instr.index 115 (.agg #[.pointer (some ⟨v,0,none⟩),.pointer (some ⟨v,1,none⟩),.pointer (some ⟨v,2,none⟩)]) (.int .i64 1)).run Tryd.prog w=.ok (.pointer (some ⟨v,1,none⟩)) w:=by kernel_rfl
theorem ip2 (v:Nat) (w:World):(Instr.index 115 (.agg #[.pointer (some ⟨v,0,none⟩),.pointer (some ⟨v,1,none⟩),.pointer (some ⟨v,2,none⟩)]) (.int .i64 2)).run Tryd.prog w=.ok (.pointer (some ⟨v,2,none⟩)) w:=by kernel_rfl
set_option maxRecDepth 100000 in
set_option maxHeartbeats 3200000 in
theorem numbers_any (b v:Nat) (s:ByteArray) (w:World) (h:RS b s 0 w) (hv:VB v 0 0 0 w) (hbv:b ≠ v) (hs:s.size < 2 ^ 62) :
  Calls Tryd.prog 42 #[.pointer (some ⟨b,0,none⟩),.pointer (some ⟨v,0,none⟩)] w fun e w'=>e=.returned (.int .i64 (rdNums s.data.toList).1)/\RS b s (rdNums s.data.toList).2.1 w'/\(∃y1 y2 y3,VB v y1 y2 y3 w'/\((rdNums s.data.toList).1=0->(y1,y2,y3)=(rdNums s.data.toList).2.2))/\G2 b v w w':=by
 obtain ⟨l,hl⟩:∃l,l=s.data.toList:=⟨_,rfl⟩
 have hll:l.length=s.size:=by rw [hl];simp
 have HLL:Hid (l.length=s.size):=hll
 obtain ⟨R,hR⟩:∃R,rdNums l=R:=⟨_,rfl⟩
 rw [<-hl,hR]
 have HNR:=nums_rest l
 rw [hR] at HNR
 have HR:Hid (R=if (rdNum l 0).1=0 then rest1 l (rdNum l 0).2.2 (rdNum l 0).2.1 else ((rdNum l 0).1,(rdNum l 0).2.2,0,0,0)):=HNR
 have CN:Hid (∀i w,i<=s.size->RS b s i w->Calls Tryd.prog 60 #[.pointer (some ⟨b,0,none⟩)] w fun e w'=>e=.returned (.tuple #[.int .i64 (rdNum l i).2.1,.int .i64 (rdNum l i).1])/\RS b s (rdNum l i).2.2 w'/\w.grownBy w' (some b)):=fun i w hi h=>by rw [hl];exact num_any b s i w hi h hs
 have TY:Hid (∀i w,l[i]?=some 46->RS b s i w->Calls Tryd.prog 59 #[.pointer (some ⟨b,0,none⟩),.string ⟨#[46]⟩] w fun e w'=>e=.returned (.bool true)/\RS b s (i+1) w'/\w.grownBy w' (some b)):=fun i w hc h=>take_yes b s i 46 w (by rw [<-hl];exact hc) h hs
 have TN:Hid (∀i w,i<=s.size->¬ l[i]?=some 46->RS b s i w->Calls Tryd.prog 59 #[.pointer (some ⟨b,0,none⟩),.string ⟨#[46]⟩] w fun e w'=>e=.returned (.bool false)/\RS b s i w'/\w.grownBy w' (some b)):=fun i w hi hc h=>take_no b s i 46 w hi (by rw [<-hl];exact hc) h hs
 have HI:Hid (RS b s 0 w/\VB v 0 0 0 w):=⟨h,hv⟩
 have HBV:Hid (b ≠ v):=hbv
 have HNL:Hid (∀i,i<=s.size->(rdNum l i).2.2<=s.size):=fun i hi=>by have:=num_le l i (by rw [hll];exact hi);rw [hll] at this;exact this
 clear hl hll hR HNR h hv hbv hs
 go_enter Tryd.func42,Tryd.ntmps42
 go_wp2
 go_quiet (fail)
 go_wp2
 go_loopw [18] (fun vi wr=>∃(k j:Nat) (x1 x2 x3:Int),vi=.int .i64 k/\j<=s.size/\RS b s j wr/\VB v x1 x2 x3 wr/\G2 b v w wr/\((k=0/\j=0/\x2=0/\x3=0)\/(k=1/\R=rest1 l j x1/\x3=0)\/(k=2/\R=rest2 l j x1 x2)\/(k=3/\R=rest3 l j x1 x2 x3))) (fun vi _=>3 - (intOf vi).toNat)
 case atStart=>exact ⟨0,0,0,0,0,rfl,Nat.zero_le _,HI.out.1.drew _,HI.out.2.drew _,(G2.refl b v w).drew _,Or.inl ⟨rfl,rfl,rfl,rfl⟩⟩
 case round =>
  obtain ⟨k,j,x1,x2,x3,rfl,hj,hrs,hvb,hg2,hcase⟩:=hrel
  have HJ:Hid (j<=s.size):=hj
  have HRS:Hid (RS b s j wr):=hrs
  have HVB:Hid (VB v x1 x2 x3 wr):=hvb
  have HG:Hid (G2 b v w wr):=hg2
  clear hj hrs hvb hg2
  rcases hcase with ⟨rfl,rfl,hx2,hx3⟩ | ⟨rfl,hrk,hx3⟩ | ⟨rfl,hrk⟩ | ⟨rfl,hrk⟩
  ·have ix:=ip0 v wr
   have HX3:Hid (x3=0):=hx3
   have HRk:Hid (R=if (rdNum l 0).1=0 then rest1 l (rdNum l 0).2.2 (rdNum l 0).2.1 else ((rdNum l 0).1,(rdNum l 0).2.2,0,0,0)):=HR.out
   have HJn:Hid (0<=s.size):=HJ.out
   have HRSn:Hid (RS b s 0 wr):=HRS.out
   have HVn:Hid (VB v x1 x2 x3 wr):=HVB.out
   have HGn:Hid (G2 b v w wr):=HG.out
   clear hx2 hx3 HR
   have CNJ:Hid (Calls Tryd.prog 60 #[.pointer (some ⟨b,0,none⟩)] wr fun e w'=>e=.returned (.tuple #[.int .i64 (rdNum l (0)).2.1,.int .i64 (rdNum l (0)).1])/\RS b s (rdNum l (0)).2.2 w'/\wr.grownBy w' (some b)):=CN.out (0) wr HJn.out HRSn.out
   have HLq:Hid ((rdNum l (0)).2.2<=s.size):=HNL.out (0) HJn.out
   obtain ⟨E,hE⟩:∃E,(rdNum l (0)).1=E:=⟨_,rfl⟩
   obtain ⟨V,hV⟩:∃V,(rdNum l (0)).2.1=V:=⟨_,rfl⟩
   obtain ⟨Q,hQ⟩:∃Q,(rdNum l (0)).2.2=Q:=⟨_,rfl⟩
   rw [hE,hV,hQ] at CNJ
   rw [hQ] at HLq
   rw [hE,hV,hQ] at HRk
   clear hE hV hQ
   go_wp2_with (go_at_call 60;refine CNJ.out.mono ?_)
   rintro e wq ⟨rfl,hrq,hgq⟩
   have HVq:Hid (VB v x1 x2 x3 wq):=HVn.out.grow hgq (Ne.symm HBV.out)
   have HGq:Hid (G2 b v w wq):=HGn.out.step hgq
   have HRq:Hid (RS b s Q wq):=hrq
   clear hrq hgq
   have cc:=HVq.out.cell.1
   have ff:=HVq.out.f 0
   cases hz:(E == 0) with
   | false =>
    have HZ:Hid (R=(E,Q,0,0,0)):=by show R=_;rw [HRk.out,if_neg (by simpa using hz)]
    go_wp2
    go_ret
    refine ⟨ret_int (by rw [HZ.out]),by rw [HZ.out];exact HRq.out.other HBV.out _ _,⟨_,_,_,HVq.out.set0 _,fun hh=>?_⟩,HGq.out.set _ _⟩
    rw [HZ.out] at hh
    exact absurd hh (by simpa using hz)
   | true =>
    have HZ:Hid (R=rest1 l Q V):=by show R=_;rw [HRk.out,if_pos (by simpa using hz)]
    go_wp2
    go_roundw
    case rel=>exact ⟨1,Q,V,x2,x3,rfl,HLq.out,HRq.out.other HBV.out _ _,HVq.out.set0 _,HGq.out.set _ _,Or.inr (Or.inl ⟨rfl,HZ.out,HX3.out⟩)⟩
    case measure=>simp [intOf]
  ·have ix:=ip1 v wr
   have HX3:Hid (x3=0):=hx3
   have HRr:Hid (R=rest1 l j x1):=hrk
   clear hrk hx3
   cases hc:decide (l[j]?=some 46) with
   | false =>
    have hc':=of_decide_eq_false hc
    have HZ:Hid (R=(2,j,0,0,0)):=by show R=_;rw [HRr.out];unfold rest1;rw [if_neg hc']
    have CT:Hid (Calls Tryd.prog 59 #[.pointer (some ⟨b,0,none⟩),.string ⟨#[46]⟩] wr fun e w'=>e=.returned (.bool false)/\RS b s j w'/\wr.grownBy w' (some b)):=TN.out j wr HJ.out hc' HRS.out
    clear hc hc'
    go_wp2_with (go_at_call 59;refine CT.out.mono ?_)
    rintro e wt ⟨rfl,hrt,hgt⟩
    have HF:Hid (RS b s j wt/\G2 b v w wt):=⟨hrt,HG.out.step hgt⟩
    have HVt:Hid (VB v x1 x2 x3 wt):=HVB.out.grow hgt (Ne.symm HBV.out)
    clear hrt hgt
    go_wp2
    go_ret
    refine ⟨ret_int (by rw [HZ.out]),by rw [HZ.out];exact HF.out.1,⟨_,_,_,HVt.out,fun hh=>?_⟩,HF.out.2⟩
    rw [HZ.out] at hh
    exact absurd hh (by show ¬ (2:Int)=0;decide)
   | true =>
    have hc':=of_decide_eq_true hc
    have HRk:Hid (R=if (rdNum l (j+1)).1=0 then rest2 l (rdNum l (j+1)).2.2 x1 (rdNum l (j+1)).2.1 else ((rdNum l (j+1)).1,(rdNum l (j+1)).2.2,0,0,0)):=by show R=_;rw [HRr.out];unfold rest1;rw [if_pos hc']
    have CT:Hid (Calls Tryd.prog 59 #[.pointer (some ⟨b,0,none⟩),.string ⟨#[46]⟩] wr fun e w'=>e=.returned (.bool true)/\RS b s (j+1) w'/\wr.grownBy w' (some b)):=TY.out j wr hc' HRS.out
    have HJn:Hid (j+1<=s.size):=by have:=(List.getElem?_eq_some_iff.1 hc').1;rw [HLL.out] at this;exact this
    clear hc hc'
    go_wp2_with (go_at_call 59;refine CT.out.mono ?_)
    rintro e wt ⟨rfl,hrt,hgt⟩
    have HRSn:Hid (RS b s (j+1) wt):=hrt
    have HVn:Hid (VB v x1 x2 x3 wt):=HVB.out.grow hgt (Ne.symm HBV.out)
    have HGn:Hid (G2 b v w wt):=HG.out.step hgt
    clear hrt hgt
    have CNJ:Hid (Calls Tryd.prog 60 #[.pointer (some ⟨b,0,none⟩)] wt fun e w'=>e=.returned (.tuple #[.int .i64 (rdNum l (j+1)).2.1,.int .i64 (rdNum l (j+1)).1])/\RS b s (rdNum l (j+1)).2.2 w'/\wt.grownBy w' (some b)):=CN.out (j+1) wt HJn.out HRSn.out
    have HLq:Hid ((rdNum l (j+1)).2.2<=s.size):=HNL.out (j+1) HJn.out
    obtain ⟨E,hE⟩:∃E,(rdNum l (j+1)).1=E:=⟨_,rfl⟩
    obtain ⟨V,hV⟩:∃V,(rdNum l (j+1)).2.1=V:=⟨_,rfl⟩
    obtain ⟨Q,hQ⟩:∃Q,(rdNum l (j+1)).2.2=Q:=⟨_,rfl⟩
    rw [hE,hV,hQ] at CNJ
    rw [hQ] at HLq
    rw [hE,hV,hQ] at HRk
    clear hE hV hQ
    go_wp2_with (go_at_call 60;refine CNJ.out.mono ?_)
    rintro e wq ⟨rfl,hrq,hgq⟩
    have HVq:Hid (VB v x1 x2 x3 wq):=HVn.out.grow hgq (Ne.symm HBV.out)
    have HGq:Hid (G2 b v w wq):=HGn.out.step hgq
    have HRq:Hid (RS b s Q wq):=hrq
    clear hrq hgq
    have cc:=HVq.out.cell.2.1
    have ff:=HVq.out.f 1
    cases hz:(E == 0) with
    | false =>
     have HZ:Hid (R=(E,Q,0,0,0)):=by show R=_;rw [HRk.out,if_neg (by simpa using hz)]
     go_wp2
     go_ret
     refine ⟨ret_int (by rw [HZ.out]),by rw [HZ.out];exact HRq.out.other HBV.out _ _,⟨_,_,_,HVq.out.set1 _,fun hh=>?_⟩,HGq.out.set _ _⟩
     rw [HZ.out] at hh
     exact absurd hh (by simpa using hz)
    | true =>
     have HZ:Hid (R=rest2 l Q x1 V):=by show R=_;rw [HRk.out,if_pos (by simpa using hz)]
     go_wp2
     go_roundw
     case rel=>exact ⟨2,Q,x1,V,x3,rfl,HLq.out,HRq.out.other HBV.out _ _,HVq.out.set1 _,HGq.out.set _ _,Or.inr (Or.inr (Or.inl ⟨rfl,HZ.out⟩))⟩
     case measure=>simp [intOf]
  ·have ix:=ip2 v wr
   have HRr:Hid (R=rest2 l j x1 x2):=hrk
   clear hrk
   cases hc:decide (l[j]?=some 46) with
   | false =>
    have hc':=of_decide_eq_false hc
    have HZ:Hid (R=(2,j,0,0,0)):=by show R=_;rw [HRr.out];unfold rest2;rw [if_neg hc']
    have CT:Hid (Calls Tryd.prog 59 #[.pointer (some ⟨b,0,none⟩),.string ⟨#[46]⟩] wr fun e w'=>e=.returned (.bool false)/\RS b s j w'/\wr.grownBy w' (some b)):=TN.out j wr HJ.out hc' HRS.out
    clear hc hc'
    go_wp2_with (go_at_call 59;refine CT.out.mono ?_)
    rintro e wt ⟨rfl,hrt,hgt⟩
    have HF:Hid (RS b s j wt/\G2 b v w wt):=⟨hrt,HG.out.step hgt⟩
    have HVt:Hid (VB v x1 x2 x3 wt):=HVB.out.grow hgt (Ne.symm HBV.out)
    clear hrt hgt
    go_wp2
    go_ret
    refine ⟨ret_int (by rw [HZ.out]),by rw [HZ.out];exact HF.out.1,⟨_,_,_,HVt.out,fun hh=>?_⟩,HF.out.2⟩
    rw [HZ.out] at hh
    exact absurd hh (by show ¬ (2:Int)=0;decide)
   | true =>
    have hc':=of_decide_eq_true hc
    have HRk:Hid (R=if (rdNum l (j+1)).1=0 then rest3 l (rdNum l (j+1)).2.2 x1 x2 (rdNum l (j+1)).2.1 else ((rdNum l (j+1)).1,(rdNum l (j+1)).2.2,0,0,0)):=by show R=_;rw [HRr.out];unfold rest2;rw [if_pos hc']
    have CT:Hid (Calls Tryd.prog 59 #[.pointer (some ⟨b,0,none⟩),.string ⟨#[46]⟩] wr fun e w'=>e=.returned (.bool true)/\RS b s (j+1) w'/\wr.grownBy w' (some b)):=TY.out j wr hc' HRS.out
    have HJn:Hid (j+1<=s.size):=by have:=(List.getElem?_eq_some_iff.1 hc').1;rw [HLL.out] at this;exact this
    clear hc hc'
    go_wp2_with (go_at_call 59;refine CT.out.mono ?_)
    rintro e wt ⟨rfl,hrt,hgt⟩
    have HRSn:Hid (RS b s (j+1) wt):=hrt
    have HVn:Hid (VB v x1 x2 x3 wt):=HVB.out.grow hgt (Ne.symm HBV.out)
    have HGn:Hid (G2 b v w wt):=HG.out.step hgt
    clear hrt hgt
    have CNJ:Hid (Calls Tryd.prog 60 #[.pointer (some ⟨b,0,none⟩)] wt fun e w'=>e=.returned (.tuple #[.int .i64 (rdNum l (j+1)).2.1,.int .i64 (rdNum l (j+1)).1])/\RS b s (rdNum l (j+1)).2.2 w'/\wt.grownBy w' (some b)):=CN.out (j+1) wt HJn.out HRSn.out
    have HLq:Hid ((rdNum l (j+1)).2.2<=s.size):=HNL.out (j+1) HJn.out
    obtain ⟨E,hE⟩:∃E,(rdNum l (j+1)).1=E:=⟨_,rfl⟩
    obtain ⟨V,hV⟩:∃V,(rdNum l (j+1)).2.1=V:=⟨_,rfl⟩
    obtain ⟨Q,hQ⟩:∃Q,(rdNum l (j+1)).2.2=Q:=⟨_,rfl⟩
    rw [hE,hV,hQ] at CNJ
    rw [hQ] at HLq
    rw [hE,hV,hQ] at HRk
    clear hE hV hQ
    go_wp2_with (go_at_call 60;refine CNJ.out.mono ?_)
    rintro e wq ⟨rfl,hrq,hgq⟩
    have HVq:Hid (VB v x1 x2 x3 wq):=HVn.out.grow hgq (Ne.symm HBV.out)
    have HGq:Hid (G2 b v w wq):=HGn.out.step hgq
    have HRq:Hid (RS b s Q wq):=hrq
    clear hrq hgq
    have cc:=HVq.out.cell.2.2
    have ff:=HVq.out.f 2
    cases hz:(E == 0) with
    | false =>
     have HZ:Hid (R=(E,Q,0,0,0)):=by show R=_;rw [HRk.out,if_neg (by simpa using hz)]
     go_wp2
     go_ret
     refine ⟨ret_int (by rw [HZ.out]),by rw [HZ.out];exact HRq.out.other HBV.out _ _,⟨_,_,_,HVq.out.set2 _,fun hh=>?_⟩,HGq.out.set _ _⟩
     rw [HZ.out] at hh
     exact absurd hh (by simpa using hz)
    | true =>
     have HZ:Hid (R=rest3 l Q x1 x2 V):=by show R=_;rw [HRk.out,if_pos (by simpa using hz)]
     go_wp2
     go_roundw
     case rel=>exact ⟨3,Q,x1,x2,V,rfl,HLq.out,HRq.out.other HBV.out _ _,HVq.out.set2 _,HGq.out.set _ _,Or.inr (Or.inr (Or.inr ⟨rfl,HZ.out⟩))⟩
     case measure=>simp [intOf]
  ·have HZ:Hid (R=(0,j,x1,x2,x3)):=hrk
   clear hrk
   go_wp2
   go_ret
   refine ⟨ret_int (by rw [HZ.out]),by rw [HZ.out];exact HRS.out,⟨_,_,_,HVB.out,fun _=>by rw [HZ.out]⟩,HG.out⟩
end Go.Proofs.YtaeonidcngjeiaaDoor
namespace Go.Proofs
open Go.Shelf
def Tryd.lays316_ren:Go.Shelf.Ren:=⟨fun | 316=>89 | n=>n,fun | 22=>57 | 23=>113 | 27=>61 | 28=>23 | 31=>104 | 34=>31 | 37=>127 | 40=>150 | 41=>121 | 42=>122 | 43=>44 | 46=>60 | 47=>59 | 51=>82 | 52=>81 | 53=>84 | 54=>83 | 55=>137 | 59=>85 | 60=>86 | 63=>141 | 64=>144 | 68=>105 | 69=>123 | 80=>151 | 81=>99 | 104=>53 | 105=>139 | 106=>140 | 111=>62 | 114=>138 | 115=>129 | 116=>130 | 117=>131 | 118=>132 | 119=>146 | 122=>128 | 123=>133 | 124=>134 | 127=>145 | 131=>79 | 137=>147 | 138=>148 | 139=>149 | 146=>142 | 151=>143 | 164=>170 | 182=>74 | 183=>75 | 218=>106 | 219=>107 | 220=>108 | 222=>110 | 228=>124 | 229=>125 | 238=>152 | 239=>153 | 240=>154 | 241=>155 | 242=>156 | 243=>157 | 244=>158 | 245=>159 | 246=>160 | 247=>161 | 248=>162 | 249=>163 | n=>n,fun | 1=>0 | 3=>1 | 4=>2 | n=>n⟩
set_option maxRecDepth 100000 in
theorem Tryd.lays316:Go.Proofs.LaysM.n316 Tryd.prog Tryd.lays316_ren:={
 mixed:=by kernel_rfl
 f316:=Tryd.func89.trans (congrArg some (by kernel_rfl))
 t0:=Tryd.underlying0
 a0:=Tryd.isAgg0
 z0:=Tryd.sizeOf0
 v0:=Tryd.zeroValue0
 t3:=Tryd.underlying3
 a3:=Tryd.isAgg3
 z3:=Tryd.sizeOf3
 v3:=Tryd.zeroValue3
 t4:=Tryd.underlying4
 a4:=Tryd.isAgg4
 z4:=Tryd.sizeOf4
 v4:=Tryd.zeroValue4
 t9:=Tryd.underlying9
 a9:=Tryd.isAgg9
 z9:=Tryd.sizeOf9
 v9:=Tryd.zeroValue9
 t37:=Tryd.underlying127
 a37:=Tryd.isAgg127
 z37:=Tryd.sizeOf127
 v37:=Tryd.zeroValue127
 t127:=Tryd.underlying145
 a127:=Tryd.isAgg145
 z127:=Tryd.sizeOf145
 v127:=Tryd.zeroValue145
 t5:=Tryd.underlying5
 a5:=Tryd.isAgg5
 z5:=Tryd.sizeOf5
 v5:=Tryd.zeroValue5
 i0:=by kernel_rfl
 i3:=by kernel_rfl
 i4:=by kernel_rfl
 i5:=by kernel_rfl
 i9:=by kernel_rfl
 i37:=by kernel_rfl
 i127:=by kernel_rfl }
end Go.Proofs
namespace Go.Proofs.YtaeonidcngjeiaaDoor
open Go.RowKit Go.Shelf
set_option linter.unusedVariables false
theorem cloneL_any (s:ByteArray) (w:World) (hlim:s.size<=281474976710656) :
  Calls Tryd.prog 89 #[.string s] w fun e w'=>e=.returned (.string s)/\Below w.heap.size w w':=Any.stringslite_Clone Tryd.lays316 s w hlim
set_option maxHeartbeats 400000 in
theorem clone_any (s:ByteArray) (w:World) (hlim:s.size<=281474976710656) :
  Calls Tryd.prog 78 #[.string s] w fun e w'=>e=.returned (.string s)/\w.grownBy w' none:=by
 have C:Hid (∀w,Calls Tryd.prog 89 #[.string s] w fun e w'=>e=.returned (.string s)/\Below w.heap.size w w'):=fun w=>cloneL_any s w hlim
 clear hlim
 go_enter Tryd.func78,Tryd.ntmps78
 go_wp2_with (first | (go_at_call 89;refine (C.out _).mono ?_;rintro e w1 ⟨rfl,hb⟩))
 go_ret
 exact ⟨rfl,⟨hb.os,hb.tape,hb.output,hb.size,fun k hk _=>hb.block k hk⟩⟩
end Go.Proofs.YtaeonidcngjeiaaDoor
namespace Go.Proofs.YtaeonidcngjeiaaDoor
open Go.RowKit Go.Shelf
set_option linter.unusedVariables false
def partsR (st:Bool) (l:List UInt8) (i:Nat):List UInt8:=if (rdParts st l i).1=0 then subT l i ((rdParts st l i).2 - i) else []
set_option maxHeartbeats 1600000 in
theorem partsP (b:Nat) (s:ByteArray) (i:Nat) (w:World) (hi:i<=s.size) (h:RS b s i w) (hs:s.size<=281474976710656) :
  Calls Tryd.prog 61 #[.pointer (some ⟨b,0,none⟩),.int .i64 0] w fun e w'=>e=.returned (.tuple #[.string ⟨(partsR true s.data.toList i).toArray⟩,.int .i64 (rdParts true s.data.toList i).1])/\RS b s (rdParts true s.data.toList i).2 w'/\w.grownBy w' (some b):=by
 have hsl:s.data.toList.length=s.size:=by simp
 have CS:Hid (Calls Tryd.prog 77 #[.pointer (some ⟨b,0,none⟩),.int .i64 0] w fun e w'=>e=.returned (.int .i64 (rdParts true s.data.toList i).1)/\RS b s (rdParts true s.data.toList i).2 w'/\w.grownBy w' (some b)):=skipP b s i w hi h (by omega)
 have d1:=h.c1
 have hpt:=parts_take true s.data.toList _ i rfl (by rw [hsl];exact hi)
 obtain ⟨P,hP⟩:∃P,P=partsR true s.data.toList i:=⟨_,rfl⟩
 unfold partsR at hP
 have hP0:partsR true s.data.toList i=P:=hP.symm
 rw [hP0]
 obtain ⟨E,Q,hEQ⟩:∃E Q,rdParts true s.data.toList i=(E,Q):=⟨_,_,rfl⟩
 rw [hEQ] at CS hpt hP
 rw [hEQ]
 simp only at hpt hP
 have HP:Hid (P=if E=0 then subT s.data.toList i (Q - i) else []):=hP
 have HPT:Hid (E=0->i < Q/\Q<=s.size):=fun h=>by have:=hpt h;rw [hsl] at this;exact ⟨this.1,this.2.1⟩
 have HS:Hid (s.size<=281474976710656/\s.data.toList.length=s.size):=⟨hs,hsl⟩
 clear hP0 hEQ hpt hP hi h hs hsl
 cases hz:(E == 0) with
 | false =>
  have HZ:Hid (P=[]):=by show P=[];rw [HP.out,if_neg (by simpa using hz)]
  go_enter Tryd.func61,Tryd.ntmps61
  go_wp2_with (go_at_call 77;refine CS.out.mono ?_)
  rintro e w1 rfl hr1 hg1
  have HF:Hid (RS b s Q w1/\w.grownBy w1 (some b)):=⟨hr1,hg1⟩
  clear hr1 hg1
  go_wp2
  refine bodyPost_ret (results_tmp2 rfl _ _ _) rfl ⟨?_,HF.out.1,HF.out.2⟩
  rw [HZ.out];rfl
 | true =>
  have hE:E=0:=by simpa using hz
  have hq:=HPT.out hE
  obtain ⟨X,hX⟩:∃X:ByteArray,X=⟨P.toArray⟩:=⟨_,rfl⟩
  have hPe:P=subT s.data.toList i (Q - i):=by rw [HP.out,if_pos hE]
  have sl:∀wx,(Instr.slice 9 (.string s) (some (.int .i64 (i:Int))) (some (.int .i64 (Q:Int))) none).run Tryd.prog wx=.ok (.string X) wx:=fun wx=>by rw [hX,hPe];exact run_sub s i Q (by omega) hq.2 wx
  have CC:Hid (∀w,Calls Tryd.prog 78 #[.string X] w fun e w'=>e=.returned (.string X)/\w.grownBy w' none):=fun w=>clone_any X w (by
   rw [hX];show P.toArray.size<=_
   have:=sub_len s.data.toList i (Q - i) (by have:=HS.out.2;omega)
   rw [<-hPe] at this
   have h2:=HS.out.1
   simp;omega)
  have HX:Hid (X=⟨P.toArray⟩):=hX
  subst hE
  clear hX hPe hq hz HPT
  go_enter Tryd.func61,Tryd.ntmps61
  go_wp2_with (go_at_call 77;refine CS.out.mono ?_)
  rintro e w1 rfl hr1 hg1
  have HR1:Hid (RS b s Q w1):=hr1
  have HG1:Hid (w.grownBy w1 (some b)):=hg1
  have f0:=hr1.c0
  have f1:=hr1.c1
  clear hr1 hg1
  go_wp2
  go_region_held3 (fun w'=>w'.cell? ⟨b,0,none⟩=some (.string s)/\w'.cell? ⟨b,1,none⟩=some (.int .i64 (Q:Int))) ((first | go_keep | (refine ⟨?_,?_⟩ <;> (refine World.grownBy.cell (by assumption) ?_ (by simp);assumption)))) (first | (go_at_call 78;refine (CC.out _).mono ?_;rintro e w2 ⟨rfl,hg2⟩))
  have HF:Hid (RS b s Q w2/\w.grownBy w2 (some b)):=⟨HR1.out.grow (gb_undrew hg2),gb_trans HG1.out (gb_weak (gb_undrew hg2) _)⟩
  clear hg2
  go_wp2
  refine bodyPost_ret (results_tmp2 rfl _ _ _) rfl ⟨?_,HF.out.1,HF.out.2⟩
  rw [<-HX.out];rfl
set_option maxHeartbeats 1600000 in
theorem partsB (b:Nat) (s:ByteArray) (i:Nat) (w:World) (hi:i<=s.size) (h:RS b s i w) (hs:s.size<=281474976710656) :
  Calls Tryd.prog 61 #[.pointer (some ⟨b,0,none⟩),.int .i64 1] w fun e w'=>e=.returned (.tuple #[.string ⟨(partsR false s.data.toList i).toArray⟩,.int .i64 (rdParts false s.data.toList i).1])/\RS b s (rdParts false s.data.toList i).2 w'/\w.grownBy w' (some b):=by
 have hsl:s.data.toList.length=s.size:=by simp
 have CS:Hid (Calls Tryd.prog 77 #[.pointer (some ⟨b,0,none⟩),.int .i64 1] w fun e w'=>e=.returned (.int .i64 (rdParts false s.data.toList i).1)/\RS b s (rdParts false s.data.toList i).2 w'/\w.grownBy w' (some b)):=skipB b s i w hi h (by omega)
 have d1:=h.c1
 have hpt:=parts_take false s.data.toList _ i rfl (by rw [hsl];exact hi)
 obtain ⟨P,hP⟩:∃P,P=partsR false s.data.toList i:=⟨_,rfl⟩
 unfold partsR at hP
 have hP0:partsR false s.data.toList i=P:=hP.symm
 rw [hP0]
 obtain ⟨E,Q,hEQ⟩:∃E Q,rdParts false s.data.toList i=(E,Q):=⟨_,_,rfl⟩
 rw [hEQ] at CS hpt hP
 rw [hEQ]
 simp only at hpt hP
 have HP:Hid (P=if E=0 then subT s.data.toList i (Q - i) else []):=hP
 have HPT:Hid (E=0->i < Q/\Q<=s.size):=fun h=>by have:=hpt h;rw [hsl] at this;exact ⟨this.1,this.2.1⟩
 have HS:Hid (s.size<=281474976710656/\s.data.toList.length=s.size):=⟨hs,hsl⟩
 clear hP0 hEQ hpt hP hi h hs hsl
 cases hz:(E == 0) with
 | false =>
  have HZ:Hid (P=[]):=by show P=[];rw [HP.out,if_neg (by simpa using hz)]
  go_enter Tryd.func61,Tryd.ntmps61
  go_wp2_with (go_at_call 77;refine CS.out.mono ?_)
  rintro e w1 rfl hr1 hg1
  have HF:Hid (RS b s Q w1/\w.grownBy w1 (some b)):=⟨hr1,hg1⟩
  clear hr1 hg1
  go_wp2
  refine bodyPost_ret (results_tmp2 rfl _ _ _) rfl ⟨?_,HF.out.1,HF.out.2⟩
  rw [HZ.out];rfl
 | true =>
  have hE:E=0:=by simpa using hz
  have hq:=HPT.out hE
  obtain ⟨X,hX⟩:∃X:ByteArray,X=⟨P.toArray⟩:=⟨_,rfl⟩
  have hPe:P=subT s.data.toList i (Q - i):=by rw [HP.out,if_pos hE]
  have sl:∀wx,(Instr.slice 9 (.string s) (some (.int .i64 (i:Int))) (some (.int .i64 (Q:Int))) none).run Tryd.prog wx=.ok (.string X) wx:=fun wx=>by rw [hX,hPe];exact run_sub s i Q (by omega) hq.2 wx
  have CC:Hid (∀w,Calls Tryd.prog 78 #[.string X] w fun e w'=>e=.returned (.string X)/\w.grownBy w' none):=fun w=>clone_any X w (by
   rw [hX];show P.toArray.size<=_
   have:=sub_len s.data.toList i (Q - i) (by have:=HS.out.2;omega)
   rw [<-hPe] at this
   have h2:=HS.out.1
   simp;omega)
  have HX:Hid (X=⟨P.toArray⟩):=hX
  subst hE
  clear hX hPe hq hz HPT
  go_enter Tryd.func61,Tryd.ntmps61
  go_wp2_with (go_at_call 77;refine CS.out.mono ?_)
  rintro e w1 rfl hr1 hg1
  have HR1:Hid (RS b s Q w1):=hr1
  have HG1:Hid (w.grownBy w1 (some b)):=hg1
  have f0:=hr1.c0
  have f1:=hr1.c1
  clear hr1 hg1
  go_wp2
  go_region_held3 (fun w'=>w'.cell? ⟨b,0,none⟩=some (.string s)/\w'.cell? ⟨b,1,none⟩=some (.int .i64 (Q:Int))) ((first | go_keep | (refine ⟨?_,?_⟩ <;> (refine World.grownBy.cell (by assumption) ?_ (by simp);assumption)))) (first | (go_at_call 78;refine (CC.out _).mono ?_;rintro e w2 ⟨rfl,hg2⟩))
  have HF:Hid (RS b s Q w2/\w.grownBy w2 (some b)):=⟨HR1.out.grow (gb_undrew hg2),gb_trans HG1.out (gb_weak (gb_undrew hg2) _)⟩
  clear hg2
  go_wp2
  refine bodyPost_ret (results_tmp2 rfl _ _ _) rfl ⟨?_,HF.out.1,HF.out.2⟩
  rw [<-HX.out];rfl
end Go.Proofs.YtaeonidcngjeiaaDoor
