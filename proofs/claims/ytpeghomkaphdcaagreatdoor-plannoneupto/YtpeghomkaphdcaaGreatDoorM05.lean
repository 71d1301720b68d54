import Derived.Test.YtpeghomkaphdcaaGreatDoorM04
import Derived.Test.YtpeghomkaphdcaaGreatDoorM02
import Derived.Shelf.Strconv.Clone
import Derived.Test.YtpeghomkaphdcaaGreatDoorProg
import Derived.Deep.RegionHeld3
namespace Go.Proofs.YtpeghomkaphdcaaGreatDoor
open Go.RowKit
set_option linter.unusedVariables false
structure G2 (b v:Nat) (w w':World):Prop where
 os:w'.os=w.os
 tape:w'.tape=w.tape
 output:w'.output=w.output
 size:w.heap.size<=w'.heap.size
 block:∀k,k < w.heap.size->k ≠ b->k ≠ v->w'.heap[k]?=w.heap[k]?
theorem G2.refl (b v:Nat) (w:World):G2 b v w w:=⟨rfl,rfl,rfl,Nat.le_refl _,fun _ _ _ _=>rfl⟩
theorem G2.step {b v:Nat} {w w1 w2:World} (h:G2 b v w w1) (hg:w1.grownBy w2 (some b)):G2 b v w w2 :=
 ⟨hg.os.trans h.os,hg.tape.trans h.tape,hg.output.trans h.output,Nat.le_trans h.size hg.size,fun k hk h1 h2=>(hg.block k (Nat.lt_of_lt_of_le hk h.size) (by simpa using h1)).trans (h.block k hk h1 h2)⟩
theorem G2.drew {b v:Nat} {w w1:World} (h:G2 b v w w1) (n:Nat):G2 b v w (w1.drewN n):=⟨h.os,h.tape,h.output,h.size,h.block⟩
theorem G2.set {b v:Nat} {w w1:World} (h:G2 b v w w1) (o:Nat) (x:Value):G2 b v w (w1.setCell ⟨v,o,none⟩ x) :=
 ⟨h.os,h.tape,h.output,by simpa [World.setCell] using h.size,fun k hk h1 h2=>by rw [<-h.block k hk h1 h2];exact heap_setCell_other w1 _ k x (fun e=>h2 e)⟩
def VB (v:Nat) (x1 x2 x3:Int) (w:World):Prop:=w.heap[v]?=some (.cells #[.int .i64 x1,.int .i64 x2,.int .i64 x3,.string ⟨#[]⟩,.string ⟨#[]⟩] 105 (0,0))
theorem VB.cell {v:Nat} {x1 x2 x3:Int} {w:World} (h:VB v x1 x2 x3 w):w.cell? ⟨v,0,none⟩=some (.int .i64 x1)/\w.cell? ⟨v,1,none⟩=some (.int .i64 x2)/\w.cell? ⟨v,2,none⟩=some (.int .i64 x3) :=
 ⟨by rw [Lib.cell_of_heap h];rfl,by rw [Lib.cell_of_heap h];rfl,by rw [Lib.cell_of_heap h];rfl⟩
theorem VB.f {v:Nat} {x1 x2 x3:Int} {w:World} (h:VB v x1 x2 x3 w) (o:Nat):w.frozen? ⟨v,o,none⟩=false:=Lib.frozen_of_heap h o
theorem VB.grow {b v:Nat} {x1 x2 x3:Int} {w w':World} (h:VB v x1 x2 x3 w) (hg:w.grownBy w' (some b)) (hn:v ≠ b):VB v x1 x2 x3 w':=by
 unfold VB at h ⊢
 rw [hg.block v ((Array.getElem?_eq_some_iff.1 h).1) (by simpa using hn)];exact h
theorem VB.drew {v:Nat} {x1 x2 x3:Int} {w:World} (h:VB v x1 x2 x3 w) (n:Nat):VB v x1 x2 x3 (w.drewN n):=h
theorem VB.set0 {v:Nat} {x1 x2 x3:Int} {w:World} (h:VB v x1 x2 x3 w) (y:Int):VB v y x2 x3 (w.setCell ⟨v,0,none⟩ (.int .i64 y)):=by
 unfold VB at h ⊢;simp [World.setCell,Array.getElem?_modify,h]
theorem VB.set1 {v:Nat} {x1 x2 x3:Int} {w:World} (h:VB v x1 x2 x3 w) (y:Int):VB v x1 y x3 (w.setCell ⟨v,1,none⟩ (.int .i64 y)):=by
 unfold VB at h ⊢;simp [World.setCell,Array.getElem?_modify,h]
theorem VB.set2 {v:Nat} {x1 x2 x3:Int} {w:World} (h:VB v x1 x2 x3 w) (y:Int):VB v x1 x2 y (w.setCell ⟨v,2,none⟩ (.int .i64 y)):=by
 unfold VB at h ⊢;simp [World.setCell,Array.getElem?_modify,h]
theorem RS.other {b v:Nat} {s:ByteArray} {i:Nat} {w:World} (h:RS b s i w) (hn:b ≠ v) (o:Nat) (x:Value):RS b s i (w.setCell ⟨v,o,none⟩ x):=by
 obtain ⟨t,h⟩:=h
 exact ⟨t,by rw [<-h];exact heap_setCell_other w _ b x hn⟩
def rest3 (l:List UInt8) (j:Nat) (x1 x2 x3:Int):Int × Nat × Int × Int × Int:=(0,j,x1,x2,x3)
def rest2 (l:List UInt8) (j:Nat) (x1 x2:Int):Int × Nat × Int × Int × Int :=
 if l[j]?=some 46 then (if (rdNum l (j+1)).1=0 then rest3 l (rdNum l (j+1)).2.2 x1 x2 (rdNum l (j+1)).2.1 else ((rdNum l (j+1)).1,(rdNum l (j+1)).2.2,0,0,0)) else (2,j,0,0,0)
def rest1 (l:List UInt8) (j:Nat) (x1:Int):Int × Nat × Int × Int × Int :=
 if l[j]?=some 46 then (if (rdNum l (j+1)).1=0 then rest2 l (rdNum l (j+1)).2.2 x1 (rdNum l (j+1)).2.1 else ((rdNum l (j+1)).1,(rdNum l (j+1)).2.2,0,0,0)) else (2,j,0,0,0)
theorem nums_rest (l:List UInt8):rdNums l=if (rdNum l 0).1=0 then rest1 l (rdNum l 0).2.2 (rdNum l 0).2.1 else ((rdNum l 0).1,(rdNum l 0).2.2,0,0,0):=rfl
theorem num_le (l:List UInt8) (i:Nat) (hi:i<=l.length):(rdNum l i).2.2<=l.length:=by
 have:=runN_le isD l i hi
 unfold rdNum
 repeat' split
 all_goals first | exact hi | (simp only;omega)
theorem ip0 (v:Nat) (w:World):(Instr.index 183 (.agg #[.pointer (some ⟨v,0,none⟩),.pointer (some ⟨v,1,none⟩),.pointer (some ⟨v,2,none⟩)]) (.int .i64 0)).run Tryz.prog w=.ok (.pointer (some ⟨v,0,none⟩)) w:=by kernel_rfl
theorem ip1 (v:Nat) (w:World):(Instr.index 183 (.agg #[.pointer (some ⟨v,0,none⟩),.pointer (some ⟨v,1,none⟩),.pointer (some ⟨v,2,none⟩)]) (.int .i64 1)).run Tryz.prog w=.ok (.pointer (some ⟨v,1,none⟩)) w:=by kernel_rfl
theorem ip2 (v:Nat) (w:World):(Instr.index 183 (.agg #[.pointer (some ⟨v,0,none⟩),.pointer (some ⟨v,1,none⟩),.pointer (some ⟨v,2,none⟩)]) (.int .i64 2)).run Tryz.prog w=.ok (.pointer (some ⟨v,2,none⟩)) w:=by kernel_rfl
set_option maxRecDepth 100000 in
set_option maxHeartbeats 3200000 in
theorem numbers_any (b v:Nat) (s:ByteArray) (w:World) (h:RS b s 0 w) (hv:VB v 0 0 0 w) (hbv:b ≠ v) (hs:s.size < 2 ^ 62) :
  Calls Tryz.prog 126 #[.pointer (some ⟨b,0,none⟩),.pointer (some ⟨v,0,none⟩)] w fun e w'=>e=.returned (.int .i64 (rdNums s.data.toList).1)/\RS b s (rdNums s.data.toList).2.1 w'/\(∃y1 y2 y3,VB v y1 y2 y3 w'/\((rdNums s.data.toList).1=0->(y1,y2,y3)=(rdNums s.data.toList).2.2))/\G2 b v w w':=by
 obtain ⟨l,hl⟩:∃l,l=s.data.toList:=⟨_,rfl⟩
 have hll:l.length=s.size:=by rw [hl];simp
 have HLL:Hid (l.length=s.size):=hll
 obtain ⟨R,hR⟩:∃R,rdNums l=R:=⟨_,rfl⟩
 rw [<-hl,hR]
 have HNR:=nums_rest l
 rw [hR] at HNR
 have HR:Hid (R=if (rdNum l 0).1=0 then rest1 l (rdNum l 0).2.2 (rdNum l 0).2.1 else ((rdNum l 0).1,(rdNum l 0).2.2,0,0,0)):=HNR
 have CN:Hid (∀i w,i<=s.size->RS b s i w->Calls Tryz.prog 147 #[.pointer (some ⟨b,0,none⟩)] w fun e w'=>e=.returned (.tuple #[.int .i64 (rdNum l i).2.1,.int .i64 (rdNum l i).1])/\RS b s (rdNum l i).2.2 w'/\w.grownBy w' (some b)):=fun i w hi h=>by rw [hl];exact num_any b s i w hi h hs
 have TY:Hid (∀i w,l[i]?=some 46->RS b s i w->Calls Tryz.prog 146 #[.pointer (some ⟨b,0,none⟩),.string ⟨#[46]⟩] w fun e w'=>e=.returned (.bool true)/\RS b s (i+1) w'/\w.grownBy w' (some b)):=fun i w hc h=>take_yes b s i 46 w (by rw [<-hl];exact hc) h hs
 have TN:Hid (∀i w,i<=s.size->¬ l[i]?=some 46->RS b s i w->Calls Tryz.prog 146 #[.pointer (some ⟨b,0,none⟩),.string ⟨#[46]⟩] w fun e w'=>e=.returned (.bool false)/\RS b s i w'/\w.grownBy w' (some b)):=fun i w hi hc h=>take_no b s i 46 w hi (by rw [<-hl];exact hc) h hs
 have HI:Hid (RS b s 0 w/\VB v 0 0 0 w):=⟨h,hv⟩
 have HBV:Hid (b ≠ v):=hbv
 have HNL:Hid (∀i,i<=s.size->(rdNum l i).2.2<=s.size):=fun i hi=>by have:=num_le l i (by rw [hll];exact hi);rw [hll] at this;exact this
 clear hl hll hR HNR h hv hbv hs
 go_enter Tryz.func126,Tryz.ntmps126
 go_wp2
 go_quiet (fail)
 go_wp2
 go_loopw [18] (fun vi wr=>∃(k j:Nat) (x1 x2 x3:Int),vi=.int .i64 k/\j<=s.size/\RS b s j wr/\VB v x1 x2 x3 wr/\G2 b v w wr/\((k=0/\j=0/\x2=0/\x3=0)\/(k=1/\R=rest1 l j x1/\x3=0)\/(k=2/\R=rest2 l j x1 x2)\/(k=3/\R=rest3 l j x1 x2 x3))) (fun vi _=>3 - (intOf vi).toNat)
 case atStart=>exact ⟨0,0,0,0,0,rfl,Nat.zero_le _,HI.out.1.drew _,HI.out.2.drew _,(G2.refl b v w).drew _,Or.inl ⟨rfl,rfl,rfl,rfl⟩⟩
 case round =>
  obtain ⟨k,j,x1,x2,x3,rfl,hj,hrs,hvb,hg2,hcase⟩:=hrel
  have HJ:Hid (j<=s.size):=hj
  have HRS:Hid (RS b s j wr):=hrs
  have HVB:Hid (VB v x1 x2 x3 wr):=hvb
  have HG:Hid (G2 b v w wr):=hg2
  clear hj hrs hvb hg2
  rcases hcase with ⟨rfl,rfl,hx2,hx3⟩ | ⟨rfl,hrk,hx3⟩ | ⟨rfl,hrk⟩ | ⟨rfl,hrk⟩
  ·have ix:=ip0 v wr
   have HX3:Hid (x3=0):=hx3
   have HRk:Hid (R=if (rdNum l 0).1=0 then rest1 l (rdNum l 0).2.2 (rdNum l 0).2.1 else ((rdNum l 0).1,(rdNum l 0).2.2,0,0,0)):=HR.out
   have HJn:Hid (0<=s.size):=HJ.out
   have HRSn:Hid (RS b s 0 wr):=HRS.out
   have HVn:Hid (VB v x1 x2 x3 wr):=HVB.out
   have HGn:Hid (G2 b v w wr):=HG.out
   clear hx2 hx3 HR
   have CNJ:Hid (Calls Tryz.prog 147 #[.pointer (some ⟨b,0,none⟩)] wr fun e w'=>e=.returned (.tuple #[.int .i64 (rdNum l (0)).2.1,.int .i64 (rdNum l (0)).1])/\RS b s (rdNum l (0)).2.2 w'/\wr.grownBy w' (some b)):=CN.out (0) wr HJn.out HRSn.out
   have HLq:Hid ((rdNum l (0)).2.2<=s.size):=HNL.out (0) HJn.out
   obtain ⟨E,hE⟩:∃E,(rdNum l (0)).1=E:=⟨_,rfl⟩
   obtain ⟨V,hV⟩:∃V,(rdNum l (0)).2.1=V:=⟨_,rfl⟩
   obtain ⟨Q,hQ⟩:∃Q,(rdNum l (0)).2.2=Q:=⟨_,rfl⟩
   rw [hE,hV,hQ] at CNJ
   rw [hQ] at HLq
   rw [hE,hV,hQ] at HRk
   clear hE hV hQ
   go_wp2_with (go_at_call 147;refine CNJ.out.mono ?_)
   rintro e wq ⟨rfl,hrq,hgq⟩
   have HVq:Hid (VB v x1 x2 x3 wq):=HVn.out.grow hgq (Ne.symm HBV.out)
   have HGq:Hid (G2 b v w wq):=HGn.out.step hgq
   have HRq:Hid (RS b s Q wq):=hrq
   clear hrq hgq
   have cc:=HVq.out.cell.1
   have ff:=HVq.out.f 0
   cases hz:(E == 0) with
   | false =>
    have HZ:Hid (R=(E,Q,0,0,0)):=by show R=_;rw [HRk.out,if_neg (by simpa using hz)]
    go_wp2
    go_ret
    refine ⟨ret_int (by rw [HZ.out]),by rw [HZ.out];exact HRq.out.other HBV.out _ _,⟨_,_,_,HVq.out.set0 _,fun hh=>?_⟩,HGq.out.set _ _⟩
    rw [HZ.out] at hh
    exact absurd hh (by simpa using hz)
   | true =>
    have HZ:Hid (R=rest1 l Q V):=by show R=_;rw [HRk.out,if_pos (by simpa using hz)]
    go_wp2
    go_roundw
    case rel=>exact ⟨1,Q,V,x2,x3,rfl,HLq.out,HRq.out.other HBV.out _ _,HVq.out.set0 _,HGq.out.set _ _,Or.inr (Or.inl ⟨rfl,HZ.out,HX3.out⟩)⟩
    case measure=>simp [intOf]
  ·have ix:=ip1 v wr
   have HX3:Hid (x3=0):=hx3
   have HRr:Hid (R=rest1 l j x1):=hrk
   clear hrk hx3
   cases hc:decide (l[j]?=some 46) with
   | false =>
    have hc':=of_decide_eq_false hc
    have HZ:Hid (R=(2,j,0,0,0)):=by show R=_;rw [HRr.out];unfold rest1;rw [if_neg hc']
    have CT:Hid (Calls Tryz.prog 146 #[.pointer (some ⟨b,0,none⟩),.string ⟨#[46]⟩] wr fun e w'=>e=.returned (.bool false)/\RS b s j w'/\wr.grownBy w' (some b)):=TN.out j wr HJ.out hc' HRS.out
    clear hc hc'
    go_wp2_with (go_at_call 146;refine CT.out.mono ?_)
    rintro e wt ⟨rfl,hrt,hgt⟩
    have HF:Hid (RS b s j wt/\G2 b v w wt):=⟨hrt,HG.out.step hgt⟩
    have HVt:Hid (VB v x1 x2 x3 wt):=HVB.out.grow hgt (Ne.symm HBV.out)
    clear hrt hgt
    go_wp2
    go_ret
    refine ⟨ret_int (by rw [HZ.out]),by rw [HZ.out];exact HF.out.1,⟨_,_,_,HVt.out,fun hh=>?_⟩,HF.out.2⟩
    rw [HZ.out] at hh
    exact absurd hh (by show ¬ (2:Int)=0;decide)
   | true =>
    have hc':=of_decide_eq_true hc
    have HRk:Hid (R=if (rdNum l (j+1)).1=0 then rest2 l (rdNum l (j+1)).2.2 x1 (rdNum l (j+1)).2.1 else ((rdNum l (j+1)).1,(rdNum l (j+1)).2.2,0,0,0)):=by show R=_;rw [HRr.out];unfold rest1;rw [if_pos hc']
    have CT:Hid (Calls Tryz.prog 146 #[.pointer (some ⟨b,0,none⟩),.string ⟨#[46]⟩] wr fun e w'=>e=.returned (.bool true)/\RS b s (j+1) w'/\wr.grownBy w' (some b)):=TY.out j wr hc' HRS.out
    have HJn:Hid (j+1<=s.size):=by have:=(List.getElem?_eq_some_iff.1 hc').1;rw [HLL.out] at this;exact this
    clear hc hc'
    go_wp2_with (go_at_call 146;refine CT.out.mono ?_)
    rintro e wt ⟨rfl,hrt,hgt⟩
    have HRSn:Hid (RS b s (j+1) wt):=hrt
    have HVn:Hid (VB v x1 x2 x3 wt):=HVB.out.grow hgt (Ne.symm HBV.out)
    have HGn:Hid (G2 b v w wt):=HG.out.step hgt
    clear hrt hgt
    have CNJ:Hid (Calls Tryz.prog 147 #[.pointer (some ⟨b,0,none⟩)] wt fun e w'=>e=.returned (.tuple #[.int .i64 (rdNum l (j+1)).2.1,.int .i64 (rdNum l (j+1)).1])/\RS b s (rdNum l (j+1)).2.2 w'/\wt.grownBy w' (some b)):=CN.out (j+1) wt HJn.out HRSn.out
    have HLq:Hid ((rdNum l (j+1)).2.2<=s.size):=HNL.out (j+1) HJn.out
    obtain ⟨E,hE⟩:∃E,(rdNum l (j+1)).1=E:=⟨_,rfl⟩
    obtain ⟨V,hV⟩:∃V,(rdNum l (j+1)).2.1=V:=⟨_,rfl⟩
    obtain ⟨Q,hQ⟩:∃Q,(rdNum l (j+1)).2.2=Q:=⟨_,rfl⟩
    rw [hE,hV,hQ] at CNJ
    rw [hQ] at HLq
    rw [hE,hV,hQ] at HRk
    clear hE hV hQ
    go_wp2_with (go_at_call 147;refine CNJ.out.mono ?_)
    rintro e wq ⟨rfl,hrq,hgq⟩
    have HVq:Hid (VB v x1 x2 x3 wq):=HVn.out.grow hgq (Ne.symm HBV.out)
    have HGq:Hid (G2 b v w wq):=HGn.out.step hgq
    have HRq:Hid (RS b s Q wq):=hrq
    clear hrq hgq
    have cc:=HVq.out.cell.2.1
    have ff:=HVq.out.f 1
    cases hz:(E == 0) with
    | false =>
     have HZ:Hid (R=(E,Q,0,0,0)):=by show R=_;rw [HRk.out,if_neg (by simpa using hz)]
     go_wp2
     go_ret
     refine ⟨ret_int (by rw [HZ.out]),by rw [HZ.out];exact HRq.out.other HBV.out _ _,⟨_,_,_,HVq.out.set1 _,fun hh=>?_⟩,HGq.out.set _ _⟩
     rw [HZ.out] at hh
     exact absurd hh (by simpa using hz)
    | true =>
     have HZ:Hid (R=rest2 l Q x1 V):=by show R=_;rw [HRk.out,if_pos (by simpa using hz)]
     go_wp2
     go_roundw
     case rel=>exact ⟨2,Q,x1,V,x3,rfl,HLq.out,HRq.out.other HBV.out _ _,HVq.out.set1 _,HGq.out.set _ _,Or.inr (Or.inr (Or.inl ⟨rfl,HZ.out⟩))⟩
     case measure=>simp [intOf]
  ·have ix:=ip2 v wr
   have HRr:Hid (R=rest2 l j x1 x2):=hrk
   clear hrk
   cases hc:decide (l[j]?=some 46) with
   | false =>
    have hc':=of_decide_eq_false hc
    have HZ:Hid (R=(2,j,0,0,0)):=by show R=_;rw [HRr.out];unfold rest2;rw [if_neg hc']
    have CT:Hid (Calls Tryz.prog 146 #[.pointer (some ⟨b,0,none⟩),.string ⟨#[46]⟩] wr fun e w'=>e=.returned (.bool false)/\RS b s j w'/\wr.grownBy w' (some b)):=TN.out j wr HJ.out hc' HRS.out
    clear hc hc'
    go_wp2_with (go_at_call 146;refine CT.out.mono ?_)
    rintro e wt ⟨rfl,hrt,hgt⟩
    have HF:Hid (RS b s j wt/\G2 b v w wt):=⟨hrt,HG.out.step hgt⟩
    have HVt:Hid (VB v x1 x2 x3 wt):=HVB.out.grow hgt (Ne.symm HBV.out)
    clear hrt hgt
    go_wp2
    go_ret
    refine ⟨ret_int (by rw [HZ.out]),by rw [HZ.out];exact HF.out.1,⟨_,_,_,HVt.out,fun hh=>?_⟩,HF.out.2⟩
    rw [HZ.out] at hh
    exact absurd hh (by show ¬ (2:Int)=0;decide)
   | true =>
    have hc':=of_decide_eq_true hc
    have HRk:Hid (R=if (rdNum l (j+1)).1=0 then rest3 l (rdNum l (j+1)).2.2 x1 x2 (rdNum l (j+1)).2.1 else ((rdNum l (j+1)).1,(rdNum l (j+1)).2.2,0,0,0)):=by show R=_;rw [HRr.out];unfold rest2;rw [if_pos hc']
    have CT:Hid (Calls Tryz.prog 146 #[.pointer (some ⟨b,0,none⟩),.string ⟨#[46]⟩] wr fun e w'=>e=.returned (.bool true)/\RS b s (j+1) w'/\wr.grownBy w' (some b)):=TY.out j wr hc' HRS.out
    have HJn:Hid (j+1<=s.size):=by have:=(List.getElem?_eq_some_iff.1 hc').1;rw [HLL.out] at this;exact this
    clear hc hc'
    go_wp2_with (go_at_call 146;refine CT.out.mono ?_)
    rintro e wt ⟨rfl,hrt,hgt⟩
    have HRSn:Hid (RS b s (j+1) wt):=hrt
    have HVn:Hid (VB v x1 x2 x3 wt):=HVB.out.grow hgt (Ne.symm HBV.out)
    have HGn:Hid (G2 b v w wt):=HG.out.step hgt
    clear hrt hgt
    have CNJ:Hid (Calls Tryz.prog 147 #[.pointer (some ⟨b,0,none⟩)] wt fun e w'=>e=.returned (.tuple #[.int .i64 (rdNum l (j+1)).2.1,.int .i64 (rdNum l (j+1)).1])/\RS b s (rdNum l (j+1)).2.2 w'/\wt.grownBy w' (some b)):=CN.out (j+1) wt HJn.out HRSn.out
    have HLq:Hid ((rdNum l (j+1)).2.2<=s.size):=HNL.out (j+1) HJn.out
    obtain ⟨E,hE⟩:∃E,(rdNum l (j+1)).1=E:=⟨_,rfl⟩
    obtain ⟨V,hV⟩:∃V,(rdNum l (j+1)).2.1=V:=⟨_,rfl⟩
    obtain ⟨Q,hQ⟩:∃Q,(rdNum l (j+1)).2.2=Q:=⟨_,rfl⟩
    rw [hE,hV,hQ] at CNJ
    rw [hQ] at HLq
    rw [hE,hV,hQ] at HRk
    clear hE hV hQ
    go_wp2_with (go_at_call 147;refine CNJ.out.mono ?_)
    rintro e wq ⟨rfl,hrq,hgq⟩
    have HVq:Hid (VB v x1 x2 x3 wq):=HVn.out.grow hgq (Ne.symm HBV.out)
    have HGq:Hid (G2 b v w wq):=HGn.out.step hgq
    have HRq:Hid (RS b s Q wq):=hrq
    clear hrq hgq
    have cc:=HVq.out.cell.2.2
    have ff:=HVq.out.f 2
    cases hz:(E == 0) with
    | false =>
     have HZ:Hid (R=(E,Q,0,0,0)):=by show R=_;rw [HRk.out,if_neg (by simpa using hz)]
     go_wp2
     go_ret
     refine ⟨ret_int (by rw [HZ.out]),by rw [HZ.out];exact HRq.out.other HBV.out _ _,⟨_,_,_,HVq.out.set2 _,fun hh=>?_⟩,HGq.out.set _ _⟩
     rw [HZ.out] at hh
     exact absurd hh (by simpa using hz)
    | true =>
     have HZ:Hid (R=rest3 l Q x1 x2 V):=by show R=_;rw [HRk.out,if_pos (by simpa using hz)]
     go_wp2
     go_roundw
     case rel=>exact ⟨3,Q,x1,x2,V,rfl,HLq.out,HRq.out.other HBV.out _ _,HVq.out.set2 _,HGq.out.set _ _,Or.inr (Or.inr (Or.inr ⟨rfl,HZ.out⟩))⟩
     case measure=>simp [intOf]
  ·have HZ:Hid (R=(0,j,x1,x2,x3)):=hrk
   clear hrk
   go_wp2
   go_ret
   refine ⟨ret_int (by rw [HZ.out]),by rw [HZ.out];exact HRS.out,⟨_,_,_,HVB.out,fun _=>by rw [HZ.out]⟩,HG.out⟩
end Go.Proofs.YtpeghomkaphdcaaGreatDoor
namespace Go.Proofs
open Go.Shelf
def Tryz.lays316_ren:Go.Shelf.Ren:=⟨fun | 316=>168 | n=>n,fun | 22=>130 | 23=>190 | 24=>110 | 25=>111 | 27=>79 | 28=>165 | 31=>40 | 32=>112 | 33=>90 | 37=>53 | 40=>215 | 41=>95 | 42=>153 | 43=>109 | 46=>102 | 47=>101 | 48=>98 | 51=>134 | 52=>133 | 53=>136 | 54=>135 | 55=>204 | 59=>167 | 60=>168 | 63=>207 | 64=>210 | 67=>94 | 68=>143 | 69=>67 | 70=>52 | 71=>54 | 72=>55 | 73=>116 | 74=>63 | 75=>64 | 76=>65 | 77=>66 | 80=>68 | 81=>120 | 83=>81 | 84=>115 | 100=>84 | 101=>49 | 102=>70 | 103=>39 | 104=>83 | 105=>205 | 106=>206 | 111=>166 | 114=>175 | 115=>196 | 116=>197 | 117=>198 | 118=>199 | 119=>211 | 122=>195 | 123=>200 | 124=>201 | 127=>85 | 131=>72 | 135=>100 | 137=>212 | 138=>213 | 139=>214 | 146=>208 | 151=>209 | 164=>103 | 165=>104 | 166=>179 | 171=>149 | 172=>150 | 173=>151 | 174=>152 | 182=>126 | 183=>127 | 188=>125 | 189=>128 | 190=>129 | 191=>131 | 192=>132 | 211=>176 | 212=>177 | 213=>178 | 218=>154 | 219=>155 | 220=>156 | 222=>158 | 224=>157 | 225=>159 | 228=>180 | 229=>181 | 231=>182 | 232=>202 | 233=>203 | 238=>216 | 239=>217 | 240=>218 | 241=>219 | 242=>220 | 243=>221 | 244=>222 | 245=>223 | 246=>224 | 247=>225 | 248=>226 | 249=>227 | n=>n,fun | 3=>4 | 4=>5 | 17=>0 | 18=>2 | 19=>3 | n=>n⟩
set_option maxRecDepth 100000 in
theorem Tryz.lays316:Go.Proofs.LaysM.n316 Tryz.prog Tryz.lays316_ren:={
 mixed:=by kernel_rfl
 f316:=Tryz.func168.trans (congrArg some (by kernel_rfl))
 t0:=Tryz.underlying0
 a0:=Tryz.isAgg0
 z0:=Tryz.sizeOf0
 v0:=Tryz.zeroValue0
 t3:=Tryz.underlying3
 a3:=Tryz.isAgg3
 z3:=Tryz.sizeOf3
 v3:=Tryz.zeroValue3
 t4:=Tryz.underlying4
 a4:=Tryz.isAgg4
 z4:=Tryz.sizeOf4
 v4:=Tryz.zeroValue4
 t9:=Tryz.underlying9
 a9:=Tryz.isAgg9
 z9:=Tryz.sizeOf9
 v9:=Tryz.zeroValue9
 t37:=Tryz.underlying53
 a37:=Tryz.isAgg53
 z37:=Tryz.sizeOf53
 v37:=Tryz.zeroValue53
 t127:=Tryz.underlying85
 a127:=Tryz.isAgg85
 z127:=Tryz.sizeOf85
 v127:=Tryz.zeroValue85
 t5:=Tryz.underlying5
 a5:=Tryz.isAgg5
 z5:=Tryz.sizeOf5
 v5:=Tryz.zeroValue5
 i0:=by kernel_rfl
 i3:=by kernel_rfl
 i4:=by kernel_rfl
 i5:=by kernel_rfl
 i9:=by kernel_rfl
 i37:=by kernel_rfl
 i127:=by kernel_rfl }
end Go.Proofs
namespace Go.Proofs.YtpeghomkaphdcaaGreatDoor
open Go.RowKit Go.Shelf
set_option linter.unusedVariables false
theorem cloneL_any (s:ByteArray) (w:World) (hlim:s.size<=281474976710656) :
  Calls Tryz.prog 168 #[.string s] w fun e w'=>e=.returned (.string s)/\Below w.heap.size w w':=Any.stringslite_Clone Tryz.lays316 s w hlim
set_option maxHeartbeats 400000 in
theorem clone_any (s:ByteArray) (w:World) (hlim:s.size<=281474976710656) :
  Calls Tryz.prog 160 #[.string s] w fun e w'=>e=.returned (.string s)/\w.grownBy w' none:=by
 have C:Hid (∀w,Calls Tryz.prog 168 #[.string s] w fun e w'=>e=.returned (.string s)/\Below w.heap.size w w'):=fun w=>cloneL_any s w hlim
 clear hlim
 go_enter Tryz.func160,Tryz.ntmps160
 go_wp2_with (first | (go_at_call 168;refine (C.out _).mono ?_;rintro e w1 ⟨rfl,hb⟩))
 go_ret
 exact ⟨rfl,⟨hb.os,hb.tape,hb.output,hb.size,fun k hk _=>hb.block k hk⟩⟩
end Go.Proofs.YtpeghomkaphdcaaGreatDoor
namespace Go.Proofs.YtpeghomkaphdcaaGreatDoor
open Go.RowKit Go.Shelf
set_option linter.unusedVariables false
def partsR (st:Bool) (l:List UInt8) (i:Nat):List UInt8:=if (rdParts st l i).1=0 then subT l i ((rdParts st l i).2 - i) else []
set_option maxHeartbeats 1600000 in
theorem partsP (b:Nat) (s:ByteArray) (i:Nat) (w:World) (hi:i<=s.size) (h:RS b s i w) (hs:s.size<=281474976710656) :
  Calls Tryz.prog 148 #[.pointer (some ⟨b,0,none⟩),.int .i64 0] w fun e w'=>e=.returned (.tuple #[.string ⟨(partsR true s.data.toList i).toArray⟩,.int .i64 (rdParts true s.data.toList i).1])/\RS b s (rdParts true s.data.toList i).2 w'/\w.grownBy w' (some b):=by
 have hsl:s.data.toList.length=s.size:=by simp
 have CS:Hid (Calls Tryz.prog 159 #[.pointer (some ⟨b,0,none⟩),.int .i64 0] w fun e w'=>e=.returned (.int .i64 (rdParts true s.data.toList i).1)/\RS b s (rdParts true s.data.toList i).2 w'/\w.grownBy w' (some b)):=skipP b s i w hi h (by omega)
 have d1:=h.c1
 have hpt:=parts_take true s.data.toList _ i rfl (by rw [hsl];exact hi)
 obtain ⟨P,hP⟩:∃P,P=partsR true s.data.toList i:=⟨_,rfl⟩
 unfold partsR at hP
 have hP0:partsR true s.data.toList i=P:=hP.symm
 rw [hP0]
 obtain ⟨E,Q,hEQ⟩:∃E Q,rdParts true s.data.toList i=(E,Q):=⟨_,_,rfl⟩
 rw [hEQ] at CS hpt hP
 rw [hEQ]
 simp only at hpt hP
 have HP:Hid (P=if E=0 then subT s.data.toList i (Q - i) else []):=hP
 have HPT:Hid (E=0->i < Q/\Q<=s.size):=fun h=>by have:=hpt h;rw [hsl] at this;exact ⟨this.1,this.2.1⟩
 have HS:Hid (s.size<=281474976710656/\s.data.toList.length=s.size):=⟨hs,hsl⟩
 clear hP0 hEQ hpt hP hi h hs hsl
 cases hz:(E == 0) with
 | false =>
  have HZ:Hid (P=[]):=by show P=[];rw [HP.out,if_neg (by simpa using hz)]
  go_enter Tryz.func148,Tryz.ntmps148
  go_wp2_with (go_at_call 159;refine CS.out.mono ?_)
  rintro e w1 rfl hr1 hg1
  have HF:Hid (RS b s Q w1/\w.grownBy w1 (some b)):=⟨hr1,hg1⟩
  clear hr1 hg1
  go_wp2
  refine bodyPost_ret (results_tmp2 rfl _ _ _) rfl ⟨?_,HF.out.1,HF.out.2⟩
  rw [HZ.out];rfl
 | true =>
  have hE:E=0:=by simpa using hz
  have hq:=HPT.out hE
  obtain ⟨X,hX⟩:∃X:ByteArray,X=⟨P.toArray⟩:=⟨_,rfl⟩
  have hPe:P=subT s.data.toList i (Q - i):=by rw [HP.out,if_pos hE]
  have sl:∀wx,(Instr.slice 9 (.string s) (some (.int .i64 (i:Int))) (some (.int .i64 (Q:Int))) none).run Tryz.prog wx=.ok (.string X) wx:=fun wx=>by rw [hX,hPe];exact run_sub s i Q (by omega) hq.2 wx
  have CC:Hid (∀w,Calls Tryz.prog 160 #[.string X] w fun e w'=>e=.returned (.string X)/\w.grownBy w' none):=fun w=>clone_any X w (by
   rw [hX];show P.toArray.size<=_
   have:=sub_len s.data.toList i (Q - i) (by have:=HS.out.2;omega)
   rw [<-hPe] at this
   have h2:=HS.out.1
   simp;omega)
  have HX:Hid (X=⟨P.toArray⟩):=hX
  subst hE
  clear hX hPe hq hz HPT
  go_enter Tryz.func148,Tryz.ntmps148
  go_wp2_with (go_at_call 159;refine CS.out.mono ?_)
  rintro e w1 rfl hr1 hg1
  have HR1:Hid (RS b s Q w1):=hr1
  have HG1:Hid (w.grownBy w1 (some b)):=hg1
  have f0:=hr1.c0
  have f1:=hr1.c1
  clear hr1 hg1
  go_wp2
  go_region_held3 (fun w'=>w'.cell? ⟨b,0,none⟩=some (.string s)/\w'.cell? ⟨b,1,none⟩=some (.int .i64 (Q:Int))) ((first | go_keep | (refine ⟨?_,?_⟩ <;> (refine World.grownBy.cell (by assumption) ?_ (by simp);assumption)))) (first | (go_at_call 160;refine (CC.out _).mono ?_;rintro e w2 ⟨rfl,hg2⟩))
  have HF:Hid (RS b s Q w2/\w.grownBy w2 (some b)):=⟨HR1.out.grow (gb_undrew hg2),gb_trans HG1.out (gb_weak (gb_undrew hg2) _)⟩
  clear hg2
  go_wp2
  refine bodyPost_ret (results_tmp2 rfl _ _ _) rfl ⟨?_,HF.out.1,HF.out.2⟩
  rw [<-HX.out];rfl
set_option maxHeartbeats 1600000 in
theorem partsB (b:Nat) (s:ByteArray) (i:Nat) (w:World) (hi:i<=s.size) (h:RS b s i w) (hs:s.size<=281474976710656) :
  Calls Tryz.prog 148 #[.pointer (some ⟨b,0,none⟩),.int .i64 1] w fun e w'=>e=.returned (.tuple #[.string ⟨(partsR false s.data.toList i).toArray⟩,.int .i64 (rdParts false s.data.toList i).1])/\RS b s (rdParts false s.data.toList i).2 w'/\w.grownBy w' (some b):=by
 have hsl:s.data.toList.length=s.size:=by simp
 have CS:Hid (Calls Tryz.prog 159 #[.pointer (some ⟨b,0,none⟩),.int .i64 1] w fun e w'=>e=.returned (.int .i64 (rdParts false s.data.toList i).1)/\RS b s (rdParts false s.data.toList i).2 w'/\w.grownBy w' (some b)):=skipB b s i w hi h (by omega)
 have d1:=h.c1
 have hpt:=parts_take false s.data.toList _ i rfl (by rw [hsl];exact hi)
 obtain ⟨P,hP⟩:∃P,P=partsR false s.data.toList i:=⟨_,rfl⟩
 unfold partsR at hP
 have hP0:partsR false s.data.toList i=P:=hP.symm
 rw [hP0]
 obtain ⟨E,Q,hEQ⟩:∃E Q,rdParts false s.data.toList i=(E,Q):=⟨_,_,rfl⟩
 rw [hEQ] at CS hpt hP
 rw [hEQ]
 simp only at hpt hP
 have HP:Hid (P=if E=0 then subT s.data.toList i (Q - i) else []):=hP
 have HPT:Hid (E=0->i < Q/\Q<=s.size):=fun h=>by have:=hpt h;rw [hsl] at this;exact ⟨this.1,this.2.1⟩
 have HS:Hid (s.size<=281474976710656/\s.data.toList.length=s.size):=⟨hs,hsl⟩
 clear hP0 hEQ hpt hP hi h hs hsl
 cases hz:(E == 0) with
 | false =>
  have HZ:Hid (P=[]):=by show P=[];rw [HP.out,if_neg (by simpa using hz)]
  go_enter Tryz.func148,Tryz.ntmps148
  go_wp2_with (go_at_call 159;refine CS.out.mono ?_)
  rintro e w1 rfl hr1 hg1
  have HF:Hid (RS b s Q w1/\w.grownBy w1 (some b)):=⟨hr1,hg1⟩
  clear hr1 hg1
  go_wp2
  refine bodyPost_ret (results_tmp2 rfl _ _ _) rfl ⟨?_,HF.out.1,HF.out.2⟩
  rw [HZ.out];rfl
 | true =>
  have hE:E=0:=by simpa using hz
  have hq:=HPT.out hE
  obtain ⟨X,hX⟩:∃X:ByteArray,X=⟨P.toArray⟩:=⟨_,rfl⟩
  have hPe:P=subT s.data.toList i (Q - i):=by rw [HP.out,if_pos hE]
  have sl:∀wx,(Instr.slice 9 (.string s) (some (.int .i64 (i:Int))) (some (.int .i64 (Q:Int))) none).run Tryz.prog wx=.ok (.string X) wx:=fun wx=>by rw [hX,hPe];exact run_sub s i Q (by omega) hq.2 wx
  have CC:Hid (∀w,Calls Tryz.prog 160 #[.string X] w fun e w'=>e=.returned (.string X)/\w.grownBy w' none):=fun w=>clone_any X w (by
   rw [hX];show P.toArray.size<=_
   have:=sub_len s.data.toList i (Q - i) (by have:=HS.out.2;omega)
   rw [<-hPe] at this
   have h2:=HS.out.1
   simp;omega)
  have HX:Hid (X=⟨P.toArray⟩):=hX
  subst hE
  clear hX hPe hq hz HPT
  go_enter Tryz.func148,Tryz.ntmps148
  go_wp2_with (go_at_call 159;refine CS.out.mono ?_)
  rintro e w1 rfl hr1 hg1
  have HR1:Hid (RS b s Q w1):=hr1
  have HG1:Hid (w.grownBy w1 (some b)):=hg1
  have f0:=hr1.c0
  have f1:=hr1.c1
  clear hr1 hg1
  go_wp2
  go_region_held3 (fun w'=>w'.cell? ⟨b,0,none⟩=some (.string s)/\w'.cell? ⟨b,1,none⟩=some (.int .i64 (Q:Int))) ((first | go_keep | (refine ⟨?_,?_⟩ <;> (refine World.grownBy.cell (by assumption) ?_ (by simp);assumption)))) (first | (go_at_call 160;refine (CC.out _).mono ?_;rintro e w2 ⟨rfl,hg2⟩))
  have HF:Hid (RS b s Q w2/\w.grownBy w2 (some b)):=⟨HR1.out.grow (gb_undrew hg2),gb_trans HG1.out (gb_weak (gb_undrew hg2) _)⟩
  clear hg2
  go_wp2
  refine bodyPost_ret (results_tmp2 rfl _ _ _) rfl ⟨?_,HF.out.1,HF.out.2⟩
  rw [<-HX.out];rfl
end Go.Proofs.YtpeghomkaphdcaaGreatDoor
