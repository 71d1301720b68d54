import Derived.Test.YtmkjelchiacogaaGreatDoorM16
import Derived.Test.YtmkjelchiacogaaGreatDoorM15
import Derived.Test.YtmkjelchiacogaaGreatDoorM06
import Derived.Deep.RegionHeld3
import Derived.OwnWalk
set_option linter.unusedVariables false
set_option linter.unusedSimpArgs false
set_option maxRecDepth 100000
set_option maxHeartbeats 6400000
open Go.Proofs.Tryz
namespace Go.Proofs.YtmkjelchiacogaaGreatDoor
open Go.RowKit
structure G2(b v:Nat)(w w':World):Prop where
 os:w'.os=w.os
 tape:w'.tape=w.tape
 output:w'.output=w.output
 size:w.heap.size<=w'.heap.size
 block:∀k,k<w.heap.size->k≠b->k≠v->w'.heap[k]?=w.heap[k]?
theorem G2.refl(b v:Nat)(w:World):G2 b v w w:=⟨rfl,rfl,rfl,Nat.le_refl _,fun _ _ _ _=>rfl⟩
theorem G2.step{b v:Nat}{w w1 w2:World}(h:G2 b v w w1)(hg:w1.grownBy w2 (some b)):G2 b v w w2 :=
 ⟨hg.os.trans h.os,hg.tape.trans h.tape,hg.output.trans h.output,Nat.le_trans h.size hg.size,fun k hk h1 h2=>(hg.block k (Nat.lt_of_lt_of_le hk h.size) (by simpa using h1)).trans (h.block k hk h1 h2)⟩
theorem G2.drew{b v:Nat}{w w1:World}(h:G2 b v w w1)(n:Nat):G2 b v w (w1.drewN n):=⟨h.os,h.tape,h.output,h.size,h.block⟩
theorem G2.set{b v:Nat}{w w1:World}(h:G2 b v w w1)(o:Nat)(x:Value):G2 b v w (w1.setCell ⟨v,o,none⟩ x) :=
 ⟨h.os,h.tape,h.output,by simpa [World.setCell] using h.size,fun k hk h1 h2=>by rw[<-h.block k hk h1 h2];exact heap_setCell_other w1 _ k x (fun e=>h2 e)⟩
def VB(v:Nat)(x1 x2 x3:Int)(w:World):Prop:=w.heap[v]?=some (.cells #[.int .i64 x1,.int .i64 x2,.int .i64 x3,.string ⟨#[]⟩,.string ⟨#[]⟩] 166 (0,0))
theorem VB.cell{v:Nat}{x1 x2 x3:Int}{w:World}(h:VB v x1 x2 x3 w):w.cell? ⟨v,0,none⟩=some (.int .i64 x1)/\w.cell? ⟨v,1,none⟩=some (.int .i64 x2)/\w.cell? ⟨v,2,none⟩=some (.int .i64 x3) :=
 ⟨by rw[ae h];rfl,by rw[ae h];rfl,by rw[ae h];rfl⟩
theorem VB.f{v:Nat}{x1 x2 x3:Int}{w:World}(h:VB v x1 x2 x3 w)(o:Nat):w.frozen? ⟨v,o,none⟩=false:=Lib.frozen_of_heap h o
theorem VB.grow{b v:Nat}{x1 x2 x3:Int}{w w':World}(h:VB v x1 x2 x3 w)(hg:w.grownBy w' (some b))(hn:v≠b):VB v x1 x2 x3 w':=by
 unfold VB at h ⊢;rw[hg.block v ((bz h)) (by simpa using hn)];exact h
theorem VB.drew{v:Nat}{x1 x2 x3:Int}{w:World}(h:VB v x1 x2 x3 w)(n:Nat):VB v x1 x2 x3 (w.drewN n):=h
theorem VB.set0{v:Nat}{x1 x2 x3:Int}{w:World}(h:VB v x1 x2 x3 w)(y:Int):VB v y x2 x3 (w.setCell ⟨v,0,none⟩ (.int .i64 y)):=by
 unfold VB at h ⊢;simp[World.setCell,Array.getElem?_modify,h]
theorem VB.set1{v:Nat}{x1 x2 x3:Int}{w:World}(h:VB v x1 x2 x3 w)(y:Int):VB v x1 y x3 (w.setCell ⟨v,1,none⟩ (.int .i64 y)):=by
 unfold VB at h ⊢;simp[World.setCell,Array.getElem?_modify,h]
theorem VB.set2{v:Nat}{x1 x2 x3:Int}{w:World}(h:VB v x1 x2 x3 w)(y:Int):VB v x1 x2 y (w.setCell ⟨v,2,none⟩ (.int .i64 y)):=by
 unfold VB at h ⊢;simp[World.setCell,Array.getElem?_modify,h]
theorem RS.other{b v:Nat}{s:ByteArray}{i:Nat}{w:World}(h:RS b s i w)(hn:b≠v)(o:Nat)(x:Value):RS b s i (w.setCell ⟨v,o,none⟩ x):=by
 obtain⟨t,h⟩:=h;exact⟨t,by rw[<-h];exact heap_setCell_other w _ b x hn⟩
def yH(l:List UInt8)(j:Nat)(x1 x2 x3:Int):Int × Nat × Int × Int × Int:=(0,j,x1,x2,x3)
def rF(l:List UInt8)(j:Nat)(x1 x2:Int):Int × Nat × Int × Int × Int :=
 if l[j]?=some 46 then(if(rdNum l (j+1)).1=0 then yH l (rdNum l (j+1)).2.2 x1 x2 (rdNum l (j+1)).2.1 else((rdNum l (j+1)).1,(rdNum l (j+1)).2.2,0,0,0)) else(2,j,0,0,0)
def qh(l:List UInt8)(j:Nat)(x1:Int):Int × Nat × Int × Int × Int :=
 if l[j]?=some 46 then(if(rdNum l (j+1)).1=0 then rF l (rdNum l (j+1)).2.2 x1 (rdNum l (j+1)).2.1 else((rdNum l (j+1)).1,(rdNum l (j+1)).2.2,0,0,0)) else(2,j,0,0,0)
theorem Vb(l:List UInt8):bg l=if(rdNum l 0).1=0 then qh l (rdNum l 0).2.2 (rdNum l 0).2.1 else((rdNum l 0).1,(rdNum l 0).2.2,0,0,0):=rfl
theorem ac6(l:List UInt8)(i:Nat)(hi:i<=l.length):(rdNum l i).2.2<=l.length:=by
 have:=rU aC l i hi;unfold rdNum
 repeat' split
 all_goals first|exact hi|(simp only;omega)
theorem ip0(v:Nat)(w:World):(Instr.index 291 (.agg #[.pointer (some ⟨v,0,none⟩),.pointer (some ⟨v,1,none⟩),.pointer (some ⟨v,2,none⟩)]) (.int .i64 0)).run prog w=.ok (.pointer (some ⟨v,0,none⟩)) w:=by kernel_rfl
theorem ip1(v:Nat)(w:World):(Instr.index 291 (.agg #[.pointer (some ⟨v,0,none⟩),.pointer (some ⟨v,1,none⟩),.pointer (some ⟨v,2,none⟩)]) (.int .i64 1)).run prog w=.ok (.pointer (some ⟨v,1,none⟩)) w:=by kernel_rfl
theorem ip2(v:Nat)(w:World):(Instr.index 291 (.agg #[.pointer (some ⟨v,0,none⟩),.pointer (some ⟨v,1,none⟩),.pointer (some ⟨v,2,none⟩)]) (.int .i64 2)).run prog w=.ok (.pointer (some ⟨v,2,none⟩)) w:=by kernel_rfl
theorem ac7(b v:Nat)(s:ByteArray)(w:World)(h:RS b s 0 w)(hv:VB v 0 0 0 w)(hbv:b≠v)(hs:s.size<2 ^ 62) :
  Calls prog 175 #[.pointer (some ⟨b,0,none⟩),.pointer (some ⟨v,0,none⟩)] w fun e w'=>e=.returned (.int .i64 (bg s.data.toList).1)/\RS b s (bg s.data.toList).2.1 w'/\(∃y1 y2 y3,VB v y1 y2 y3 w'/\((bg s.data.toList).1=0->(y1,y2,y3)=(bg s.data.toList).2.2))/\G2 b v w w':=by
 obtain⟨l,hl⟩:∃l,l=s.data.toList:=⟨_,rfl⟩;have hll:l.length=s.size:=by rw[hl];simp
 have kL:Hd (l.length=s.size):=hll;obtain⟨R,hR⟩:=zN (bg l);rw[<-hl,hR];have MF:=Vb l;rw[hR]at MF;have HR:Hd (R=if(rdNum l 0).1=0 then qh l (rdNum l 0).2.2 (rdNum l 0).2.1 else((rdNum l 0).1,(rdNum l 0).2.2,0,0,0)):=MF;have CN:Hd (∀i w,i<=s.size->RS b s i w->Calls prog 218 #[.pointer (some ⟨b,0,none⟩)] w fun e w'=>e=.returned (.tuple #[.int .i64 (rdNum l i).2.1,.int .i64 (rdNum l i).1])/\RS b s (rdNum l i).2.2 w'/\w.grownBy w' (some b)):=fun i w hi h=>by rw[hl];exact ac5 b s i w hi h hs
 have TY:Hd (∀i w,l[i]?=some 46->RS b s i w->Calls prog 217 #[.pointer (some ⟨b,0,none⟩),.string ⟨#[46]⟩] w fun e w'=>e=.returned (.bool true)/\RS b s (i+1) w'/\w.grownBy w' (some b)):=fun i w hc h=>DL b s i 46 w (by rw[<-hl];exact hc) h hs
 have TN:Hd (∀i w,i<=s.size->¬l[i]?=some 46->RS b s i w->Calls prog 217 #[.pointer (some ⟨b,0,none⟩),.string ⟨#[46]⟩] w fun e w'=>e=.returned (.bool false)/\RS b s i w'/\w.grownBy w' (some b)):=fun i w hi hc h=>DN b s i 46 w hi (by rw[<-hl];exact hc) h hs
 have HI:Hd (RS b s 0 w/\VB v 0 0 0 w):=⟨h,hv⟩;have bF:Hd (b≠v):=hbv;have DR:Hd (∀i,i<=s.size->(rdNum l i).2.2<=s.size):=fun i hi=>by have:=ac6 l i (by rw[hll];exact hi);rw[hll]at this;exact this
 clear hl hll hR MF h hv hbv hs;go_enter func175,ntmps175;go_wp2;go_quiet (fail);go_wp2;go_loopw [18] (fun vi wr=>∃(k j:Nat) (x1 x2 x3:Int),vi=.int .i64 k/\j<=s.size/\RS b s j wr/\VB v x1 x2 x3 wr/\G2 b v w wr/\((k=0/\j=0/\x2=0/\x3=0)\/(k=1/\R=qh l j x1/\x3=0)\/(k=2/\R=rF l j x1 x2)\/(k=3/\R=yH l j x1 x2 x3))) (fun vi _=>3-(intOf vi).toNat)
 case atStart=>exact⟨0,0,0,0,0,rfl,Nat.zero_le _,HI.o.1.drew _,HI.o.2.drew _,(G2.refl b v w).drew _,Or.inl ⟨rfl,rfl,rfl,rfl⟩⟩
 case round =>
  obtain⟨k,j,x1,x2,x3,rfl,hj,hrs,hvb,hg2,hcase⟩:=hrel;have HJ:Hd (j<=s.size):=hj;have bK:Hd (RS b s j wr):=hrs;have Aq:Hd (VB v x1 x2 x3 wr):=hvb;have HG:Hd (G2 b v w wr):=hg2;clear hj hrs hvb hg2
  rcases hcase with⟨rfl,rfl,hx2,hx3⟩|⟨rfl,hrk,hx3⟩|⟨rfl,hrk⟩|⟨rfl,hrk⟩
  ·have ix:=ip0 v wr;have Vd:Hd (x3=0):=hx3;have HRk:Hd (R=if(rdNum l 0).1=0 then qh l (rdNum l 0).2.2 (rdNum l 0).2.1 else((rdNum l 0).1,(rdNum l 0).2.2,0,0,0)):=HR.o;have qi:Hd (0<=s.size):=HJ.o;have DT:Hd (RS b s 0 wr):=bK.o;have DU:Hd (VB v x1 x2 x3 wr):=Aq.o;have DV:Hd (G2 b v w wr):=HG.o;clear hx2 hx3 HR;have wI:Hd (Calls prog 218 #[.pointer (some ⟨b,0,none⟩)] wr fun e w'=>e=.returned (.tuple #[.int .i64 (rdNum l (0)).2.1,.int .i64 (rdNum l (0)).1])/\RS b s (rdNum l (0)).2.2 w'/\wr.grownBy w' (some b)):=CN.o (0) wr qi.o DT.o;have wJ:Hd ((rdNum l (0)).2.2<=s.size):=DR.o (0) qi.o;obtain⟨E,hE⟩:=zN ((rdNum l (0)).1);obtain⟨V,hV⟩:=zN ((rdNum l (0)).2.1);obtain⟨Q,hQ⟩:=zN ((rdNum l (0)).2.2);rw[hE,hV,hQ]at wI;rw[hQ]at wJ;rw[hE,hV,hQ]at HRk;clear hE hV hQ;go_wp2_with (go_at_call 218;refine wI.o.mono ?_)
   rintro e wq ⟨rfl,hrq,hgq⟩;have nV:Hd (VB v x1 x2 x3 wq):=DU.o.grow hgq (Ne.symm bF.o);have wK:Hd (G2 b v w wq):=DV.o.step hgq;have wL:Hd (RS b s Q wq):=hrq;clear hrq hgq;have cc:=nV.o.cell.1;have ff:=nV.o.f 0
   cases hz:(E == 0) with
   | false =>
    have HZ:Hd (R=(E,Q,0,0,0)):=by show R=_;rw[HRk.o,if_neg (by simpa using hz)]
    go_wp2;go_ret;refine⟨eX (by rw[HZ.o]),by rw[HZ.o];exact wL.o.other bF.o _ _,⟨_,_,_,nV.o.set0 _,fun hh=>?_⟩,wK.o.set _ _⟩;rw[HZ.o]at hh;exact absurd hh (by simpa using hz)
   | true =>
    have HZ:Hd (R=qh l Q V):=by show R=_;rw[HRk.o,if_pos (by simpa using hz)]
    go_wp2;go_roundw
    case rel=>exact⟨1,Q,V,x2,x3,rfl,wJ.o,wL.o.other bF.o _ _,nV.o.set0 _,wK.o.set _ _,Or.inr (Or.inl ⟨rfl,HZ.o,Vd.o⟩)⟩
    case measure=>simp[intOf]
  ·have ix:=ip1 v wr;have Vd:Hd (x3=0):=hx3;have DW:Hd (R=qh l j x1):=hrk;clear hrk hx3
   cases hc:decide (l[j]?=some 46) with
   | false =>
    have hc':=of_decide_eq_false hc;have HZ:Hd (R=(2,j,0,0,0)):=by show R=_;rw[DW.o];unfold qh;rw[if_neg hc']
    have CT:Hd (Calls prog 217 #[.pointer (some ⟨b,0,none⟩),.string ⟨#[46]⟩] wr fun e w'=>e=.returned (.bool false)/\RS b s j w'/\wr.grownBy w' (some b)):=TN.o j wr HJ.o hc' bK.o;clear hc hc';go_wp2_with (go_at_call 217;refine CT.o.mono ?_);rintro e wt ⟨rfl,hrt,hgt⟩;have HF:Hd (RS b s j wt/\G2 b v w wt):=⟨hrt,HG.o.step hgt⟩;have MG:Hd (VB v x1 x2 x3 wt):=Aq.o.grow hgt (Ne.symm bF.o);clear hrt hgt;go_wp2;go_ret;refine⟨eX (by rw[HZ.o]),by rw[HZ.o];exact HF.o.1,⟨_,_,_,MG.o,fun hh=>?_⟩,HF.o.2⟩;rw[HZ.o]at hh;exact absurd hh (by show ¬(2:Int)=0;decide)
   | true =>
    have hc':=of_decide_eq_true hc;have HRk:Hd (R=if(rdNum l (j+1)).1=0 then rF l (rdNum l (j+1)).2.2 x1 (rdNum l (j+1)).2.1 else((rdNum l (j+1)).1,(rdNum l (j+1)).2.2,0,0,0)):=by show R=_;rw[DW.o];unfold qh;rw[if_pos hc']
    have CT:Hd (Calls prog 217 #[.pointer (some ⟨b,0,none⟩),.string ⟨#[46]⟩] wr fun e w'=>e=.returned (.bool true)/\RS b s (j+1) w'/\wr.grownBy w' (some b)):=TY.o j wr hc' bK.o;have qi:Hd (j+1<=s.size):=by have:=(List.getElem?_eq_some_iff.1 hc').1;rw[kL.o]at this;exact this
    clear hc hc';go_wp2_with (go_at_call 217;refine CT.o.mono ?_);rintro e wt ⟨rfl,hrt,hgt⟩;have DT:Hd (RS b s (j+1) wt):=hrt;have DU:Hd (VB v x1 x2 x3 wt):=Aq.o.grow hgt (Ne.symm bF.o);have DV:Hd (G2 b v w wt):=HG.o.step hgt;clear hrt hgt;have wI:Hd (Calls prog 218 #[.pointer (some ⟨b,0,none⟩)] wt fun e w'=>e=.returned (.tuple #[.int .i64 (rdNum l (j+1)).2.1,.int .i64 (rdNum l (j+1)).1])/\RS b s (rdNum l (j+1)).2.2 w'/\wt.grownBy w' (some b)):=CN.o (j+1) wt qi.o DT.o;have wJ:Hd ((rdNum l (j+1)).2.2<=s.size):=DR.o (j+1) qi.o;obtain⟨E,hE⟩:=zN ((rdNum l (j+1)).1);obtain⟨V,hV⟩:=zN ((rdNum l (j+1)).2.1);obtain⟨Q,hQ⟩:=zN ((rdNum l (j+1)).2.2);rw[hE,hV,hQ]at wI;rw[hQ]at wJ;rw[hE,hV,hQ]at HRk;clear hE hV hQ;go_wp2_with (go_at_call 218;refine wI.o.mono ?_);rintro e wq ⟨rfl,hrq,hgq⟩;have nV:Hd (VB v x1 x2 x3 wq):=DU.o.grow hgq (Ne.symm bF.o)
    have wK:Hd (G2 b v w wq):=DV.o.step hgq;have wL:Hd (RS b s Q wq):=hrq;clear hrq hgq;have cc:=nV.o.cell.2.1;have ff:=nV.o.f 1
    cases hz:(E == 0) with
    | false =>
     have HZ:Hd (R=(E,Q,0,0,0)):=by show R=_;rw[HRk.o,if_neg (by simpa using hz)]
     go_wp2;go_ret;refine⟨eX (by rw[HZ.o]),by rw[HZ.o];exact wL.o.other bF.o _ _,⟨_,_,_,nV.o.set1 _,fun hh=>?_⟩,wK.o.set _ _⟩;rw[HZ.o]at hh;exact absurd hh (by simpa using hz)
    | true =>
     have HZ:Hd (R=rF l Q x1 V):=by show R=_;rw[HRk.o,if_pos (by simpa using hz)]
     go_wp2;go_roundw
     case rel=>exact⟨2,Q,x1,V,x3,rfl,wJ.o,wL.o.other bF.o _ _,nV.o.set1 _,wK.o.set _ _,Or.inr (Or.inr (Or.inl ⟨rfl,HZ.o⟩))⟩
     case measure=>simp[intOf]
  ·have ix:=ip2 v wr;have DW:Hd (R=rF l j x1 x2):=hrk;clear hrk
   cases hc:decide (l[j]?=some 46) with
   | false =>
    have hc':=of_decide_eq_false hc;have HZ:Hd (R=(2,j,0,0,0)):=by show R=_;rw[DW.o];unfold rF;rw[if_neg hc']
    have CT:Hd (Calls prog 217 #[.pointer (some ⟨b,0,none⟩),.string ⟨#[46]⟩] wr fun e w'=>e=.returned (.bool false)/\RS b s j w'/\wr.grownBy w' (some b)):=TN.o j wr HJ.o hc' bK.o;clear hc hc';go_wp2_with (go_at_call 217;refine CT.o.mono ?_);rintro e wt ⟨rfl,hrt,hgt⟩;have HF:Hd (RS b s j wt/\G2 b v w wt):=⟨hrt,HG.o.step hgt⟩;have MG:Hd (VB v x1 x2 x3 wt):=Aq.o.grow hgt (Ne.symm bF.o);clear hrt hgt;go_wp2;go_ret;refine⟨eX (by rw[HZ.o]),by rw[HZ.o];exact HF.o.1,⟨_,_,_,MG.o,fun hh=>?_⟩,HF.o.2⟩;rw[HZ.o]at hh;exact absurd hh (by show ¬(2:Int)=0;decide)
   | true =>
    have hc':=of_decide_eq_true hc;have HRk:Hd (R=if(rdNum l (j+1)).1=0 then yH l (rdNum l (j+1)).2.2 x1 x2 (rdNum l (j+1)).2.1 else((rdNum l (j+1)).1,(rdNum l (j+1)).2.2,0,0,0)):=by show R=_;rw[DW.o];unfold rF;rw[if_pos hc']
    have CT:Hd (Calls prog 217 #[.pointer (some ⟨b,0,none⟩),.string ⟨#[46]⟩] wr fun e w'=>e=.returned (.bool true)/\RS b s (j+1) w'/\wr.grownBy w' (some b)):=TY.o j wr hc' bK.o;have qi:Hd (j+1<=s.size):=by have:=(List.getElem?_eq_some_iff.1 hc').1;rw[kL.o]at this;exact this
    clear hc hc';go_wp2_with (go_at_call 217;refine CT.o.mono ?_);rintro e wt ⟨rfl,hrt,hgt⟩;have DT:Hd (RS b s (j+1) wt):=hrt;have DU:Hd (VB v x1 x2 x3 wt):=Aq.o.grow hgt (Ne.symm bF.o);have DV:Hd (G2 b v w wt):=HG.o.step hgt;clear hrt hgt;have wI:Hd (Calls prog 218 #[.pointer (some ⟨b,0,none⟩)] wt fun e w'=>e=.returned (.tuple #[.int .i64 (rdNum l (j+1)).2.1,.int .i64 (rdNum l (j+1)).1])/\RS b s (rdNum l (j+1)).2.2 w'/\wt.grownBy w' (some b)):=CN.o (j+1) wt qi.o DT.o;have wJ:Hd ((rdNum l (j+1)).2.2<=s.size):=DR.o (j+1) qi.o;obtain⟨E,hE⟩:=zN ((rdNum l (j+1)).1);obtain⟨V,hV⟩:=zN ((rdNum l (j+1)).2.1);obtain⟨Q,hQ⟩:=zN ((rdNum l (j+1)).2.2);rw[hE,hV,hQ]at wI;rw[hQ]at wJ;rw[hE,hV,hQ]at HRk;clear hE hV hQ;go_wp2_with (go_at_call 218;refine wI.o.mono ?_);rintro e wq ⟨rfl,hrq,hgq⟩;have nV:Hd (VB v x1 x2 x3 wq):=DU.o.grow hgq (Ne.symm bF.o)
    have wK:Hd (G2 b v w wq):=DV.o.step hgq;have wL:Hd (RS b s Q wq):=hrq;clear hrq hgq;have cc:=nV.o.cell.2.2;have ff:=nV.o.f 2
    cases hz:(E == 0) with
    | false =>
     have HZ:Hd (R=(E,Q,0,0,0)):=by show R=_;rw[HRk.o,if_neg (by simpa using hz)]
     go_wp2;go_ret;refine⟨eX (by rw[HZ.o]),by rw[HZ.o];exact wL.o.other bF.o _ _,⟨_,_,_,nV.o.set2 _,fun hh=>?_⟩,wK.o.set _ _⟩;rw[HZ.o]at hh;exact absurd hh (by simpa using hz)
    | true =>
     have HZ:Hd (R=yH l Q x1 x2 V):=by show R=_;rw[HRk.o,if_pos (by simpa using hz)]
     go_wp2;go_roundw
     case rel=>exact⟨3,Q,x1,x2,V,rfl,wJ.o,wL.o.other bF.o _ _,nV.o.set2 _,wK.o.set _ _,Or.inr (Or.inr (Or.inr ⟨rfl,HZ.o⟩))⟩
     case measure=>simp[intOf]
  ·have HZ:Hd (R=(0,j,x1,x2,x3)):=hrk;clear hrk;go_wp2;go_ret;refine⟨eX (by rw[HZ.o]),by rw[HZ.o];exact bK.o,⟨_,_,_,Aq.o,fun _=>by rw[HZ.o]⟩,HG.o⟩
open Go.RowKit Go.Shelf
def eU(st:Bool)(l:List UInt8)(i:Nat):List UInt8:=if(ak st l i).1=0 then ah l i ((ak st l i).2-i) else[]
theorem ac8(b:Nat)(s:ByteArray)(i:Nat)(w:World)(hi:i<=s.size)(h:RS b s i w)(hs:s.size<=281474976710656) :
  Calls prog 219 #[.pointer (some ⟨b,0,none⟩),.int .i64 0] w fun e w'=>e=.returned (.tuple #[.string ⟨(eU true s.data.toList i).toArray⟩,.int .i64 (ak true s.data.toList i).1])/\RS b s (ak true s.data.toList i).2 w'/\w.grownBy w' (some b):=by
 have hsl:s.data.toList.length=s.size:=by simp
 have CS:Hd (Calls prog 239 #[.pointer (some ⟨b,0,none⟩),.int .i64 0] w fun e w'=>e=.returned (.int .i64 (ak true s.data.toList i).1)/\RS b s (ak true s.data.toList i).2 w'/\w.grownBy w' (some b)):=ac3 b s i w hi h (by omega);have d1:=h.c1;have hpt:=Fh true s.data.toList _ i rfl (by rw[hsl];exact hi);obtain⟨P,hP⟩:∃P,P=eU true s.data.toList i:=⟨_,rfl⟩;unfold eU at hP;have hP0:eU true s.data.toList i=P:=hP.symm;rw[hP0];obtain⟨E,Q,jD⟩:∃E Q,ak true s.data.toList i=(E,Q):=⟨_,_,rfl⟩;rw[jD]at CS hpt hP;rw[jD];simp only at hpt hP;have HP:Hd (P=if E=0 then ah s.data.toList i (Q-i) else[]):=hP;have yA:Hd (E=0->i<Q/\Q<=s.size):=fun h=>by have:=hpt h;rw[hsl]at this;exact⟨this.1,this.2.1⟩
 have HS:Hd (s.size<=281474976710656/\s.data.toList.length=s.size):=⟨hs,hsl⟩;clear hP0 jD hpt hP hi h hs hsl
 cases hz:(E == 0) with
 | false =>
  have HZ:Hd (P=[]):=by show P=[];rw[HP.o,if_neg (by simpa using hz)]
  go_enter func219,ntmps219;go_wp2_with (go_at_call 239;refine CS.o.mono ?_);rintro e w1 rfl hr1 hg1;have HF:Hd (RS b s Q w1/\w.grownBy w1 (some b)):=⟨hr1,hg1⟩;clear hr1 hg1;go_wp2;refine bodyPost_ret (results_tmp2 rfl _ _ _) rfl ⟨?_,HF.o.1,HF.o.2⟩;rw[HZ.o];rfl
 | true =>
  have hE:E=0:=by simpa using hz
  have hq:=yA.o hE;obtain⟨X,hX⟩:∃X:ByteArray,X=⟨P.toArray⟩:=⟨_,rfl⟩;have o8:P=ah s.data.toList i (Q-i):=by rw[HP.o,if_pos hE]
  have sl:∀wx,(Instr.slice 9 (.string s) (some (.int .i64 (i:Int))) (some (.int .i64 (Q:Int))) none).run prog wx=.ok (.string X) wx:=fun wx=>by rw[hX,o8];exact qF s i Q (by omega) hq.2 wx
  have CC:Hd (∀w,Calls prog 164 #[.string X] w fun e w'=>e=.returned (.string X)/\w.grownBy w' none):=fun w=>clone_any X w (by
   rw[hX];show P.toArray.size<=_;have:=rX s.data.toList i (Q-i) (by have:=HS.o.2;omega);rw[<-o8]at this;have h2:=HS.o.1;simp;omega)
  have HX:Hd (X=⟨P.toArray⟩):=hX;subst hE;clear hX o8 hq hz yA;go_enter func219,ntmps219;go_wp2_with (go_at_call 239;refine CS.o.mono ?_);rintro e w1 rfl hr1 hg1;have HR1:Hd (RS b s Q w1):=hr1;have aB:Hd (w.grownBy w1 (some b)):=hg1;have f0:=hr1.c0;have f1:=hr1.c1;clear hr1 hg1;go_wp2
  go_region_held3 (fun w'=>w'.cell? ⟨b,0,none⟩=some (.string s)/\w'.cell? ⟨b,1,none⟩=some (.int .i64 (Q:Int))) ((first|go_keep|(refine⟨?_,?_⟩<;>(refine World.grownBy.cell (by assumption) ?_ (by simp);assumption)))) (first|(go_at_call 164;refine(CC.o _).mono ?_;rintro e w2 ⟨rfl,hg2⟩))
  have HF:Hd (RS b s Q w2/\w.grownBy w2 (some b)):=⟨HR1.o.grow (BA hg2),af aB.o (Gf (BA hg2) _)⟩;clear hg2;go_wp2;refine bodyPost_ret (results_tmp2 rfl _ _ _) rfl ⟨?_,HF.o.1,HF.o.2⟩;rw[<-HX.o];rfl
theorem ac9(b:Nat)(s:ByteArray)(i:Nat)(w:World)(hi:i<=s.size)(h:RS b s i w)(hs:s.size<=281474976710656) :
  Calls prog 219 #[.pointer (some ⟨b,0,none⟩),.int .i64 1] w fun e w'=>e=.returned (.tuple #[.string ⟨(eU false s.data.toList i).toArray⟩,.int .i64 (ak false s.data.toList i).1])/\RS b s (ak false s.data.toList i).2 w'/\w.grownBy w' (some b):=by
 have hsl:s.data.toList.length=s.size:=by simp
 have CS:Hd (Calls prog 239 #[.pointer (some ⟨b,0,none⟩),.int .i64 1] w fun e w'=>e=.returned (.int .i64 (ak false s.data.toList i).1)/\RS b s (ak false s.data.toList i).2 w'/\w.grownBy w' (some b)):=ac4 b s i w hi h (by omega);have d1:=h.c1;have hpt:=Fh false s.data.toList _ i rfl (by rw[hsl];exact hi);obtain⟨P,hP⟩:∃P,P=eU false s.data.toList i:=⟨_,rfl⟩;unfold eU at hP;have hP0:eU false s.data.toList i=P:=hP.symm;rw[hP0];obtain⟨E,Q,jD⟩:∃E Q,ak false s.data.toList i=(E,Q):=⟨_,_,rfl⟩;rw[jD]at CS hpt hP;rw[jD];simp only at hpt hP;have HP:Hd (P=if E=0 then ah s.data.toList i (Q-i) else[]):=hP;have yA:Hd (E=0->i<Q/\Q<=s.size):=fun h=>by have:=hpt h;rw[hsl]at this;exact⟨this.1,this.2.1⟩
 have HS:Hd (s.size<=281474976710656/\s.data.toList.length=s.size):=⟨hs,hsl⟩;clear hP0 jD hpt hP hi h hs hsl
 cases hz:(E == 0) with
 | false =>
  have HZ:Hd (P=[]):=by show P=[];rw[HP.o,if_neg (by simpa using hz)]
  go_enter func219,ntmps219;go_wp2_with (go_at_call 239;refine CS.o.mono ?_);rintro e w1 rfl hr1 hg1;have HF:Hd (RS b s Q w1/\w.grownBy w1 (some b)):=⟨hr1,hg1⟩;clear hr1 hg1;go_wp2;refine bodyPost_ret (results_tmp2 rfl _ _ _) rfl ⟨?_,HF.o.1,HF.o.2⟩;rw[HZ.o];rfl
 | true =>
  have hE:E=0:=by simpa using hz
  have hq:=yA.o hE;obtain⟨X,hX⟩:∃X:ByteArray,X=⟨P.toArray⟩:=⟨_,rfl⟩;have o8:P=ah s.data.toList i (Q-i):=by rw[HP.o,if_pos hE]
  have sl:∀wx,(Instr.slice 9 (.string s) (some (.int .i64 (i:Int))) (some (.int .i64 (Q:Int))) none).run prog wx=.ok (.string X) wx:=fun wx=>by rw[hX,o8];exact qF s i Q (by omega) hq.2 wx
  have CC:Hd (∀w,Calls prog 164 #[.string X] w fun e w'=>e=.returned (.string X)/\w.grownBy w' none):=fun w=>clone_any X w (by
   rw[hX];show P.toArray.size<=_;have:=rX s.data.toList i (Q-i) (by have:=HS.o.2;omega);rw[<-o8]at this;have h2:=HS.o.1;simp;omega)
  have HX:Hd (X=⟨P.toArray⟩):=hX;subst hE;clear hX o8 hq hz yA;go_enter func219,ntmps219;go_wp2_with (go_at_call 239;refine CS.o.mono ?_);rintro e w1 rfl hr1 hg1;have HR1:Hd (RS b s Q w1):=hr1;have aB:Hd (w.grownBy w1 (some b)):=hg1;have f0:=hr1.c0;have f1:=hr1.c1;clear hr1 hg1;go_wp2
  go_region_held3 (fun w'=>w'.cell? ⟨b,0,none⟩=some (.string s)/\w'.cell? ⟨b,1,none⟩=some (.int .i64 (Q:Int))) ((first|go_keep|(refine⟨?_,?_⟩<;>(refine World.grownBy.cell (by assumption) ?_ (by simp);assumption)))) (first|(go_at_call 164;refine(CC.o _).mono ?_;rintro e w2 ⟨rfl,hg2⟩))
  have HF:Hd (RS b s Q w2/\w.grownBy w2 (some b)):=⟨HR1.o.grow (BA hg2),af aB.o (Gf (BA hg2) _)⟩;clear hg2;go_wp2;refine bodyPost_ret (results_tmp2 rfl _ _ _) rfl ⟨?_,HF.o.1,HF.o.2⟩;rw[<-HX.o];rfl
open Go.RowKit
def aH(l:List UInt8)(i:Nat):Int × Nat × List UInt8 × List UInt8 :=
 if(aO 45 true l i).1=0 then
  (if(aO 43 false l (aO 45 true l i).2.1).1=0 then(0,(aO 43 false l (aO 45 true l i).2.1).2.1,(aO 45 true l i).2.2,(aO 43 false l (aO 45 true l i).2.1).2.2)
  else((aO 43 false l (aO 45 true l i).2.1).1,(aO 43 false l (aO 45 true l i).2.1).2.1,[],[]))
 else((aO 45 true l i).1,(aO 45 true l i).2.1,[],[])
theorem wM{c:UInt8}{st:Bool}{l:List UInt8}{i:Nat}(h:l[i]?=some c):aO c st l i=((ak st l (i+1)).1,(ak st l (i+1)).2,eU st l (i+1)):=by
 unfold aO eU;rw[if_pos h]
 by_cases h0:(ak st l (i+1)).1=0
 ·rw[if_pos h0,if_pos h0,h0]
 ·rw[if_neg h0,if_neg h0]
theorem rG{c:UInt8}{st:Bool}{l:List UInt8}{i:Nat}(h:¬l[i]?=some c):aO c st l i=(0,i,[]):=by unfold aO;rw[if_neg h]
theorem Ve{st:Bool}{l:List UInt8}{i:Nat}(hi:i<=l.length)(h:(ak st l i).1=0):(ak st l i).2<=l.length:=(Fh st l _ i rfl hi h).2.1
theorem Vf{c:UInt8}{st:Bool}{l:List UInt8}{i:Nat}(hi:i<=l.length)(h:(aO c st l i).1=0):(aO c st l i).2.1<=l.length:=by
 by_cases hc:l[i]?=some c
 ·rw[wM hc]at h ⊢;exact Ve (by have:=(List.getElem?_eq_some_iff.1 hc).1;omega) h
 ·rw[rG hc];exact hi
theorem ada(b:Nat)(s:ByteArray)(i:Nat)(w:World)(hi:i<=s.size)(h:RS b s i w)(hs:s.size<=281474976710656) :
  Calls prog 176 #[.pointer (some ⟨b,0,none⟩)] w fun e w'=>e=.returned (.tuple #[.string ⟨(aH s.data.toList i).2.2.1.toArray⟩,.string ⟨(aH s.data.toList i).2.2.2.toArray⟩,.int .i64 (aH s.data.toList i).1])/\RS b s (aH s.data.toList i).2.1 w'/\w.grownBy w' (some b):=by
 have kL:Hd (s.data.toList.length=s.size):=by show s.data.toList.length=s.size;simp
 have TY:Hd (∀(c:UInt8) i w,s.data.toList[i]?=some c->RS b s i w->Calls prog 217 #[.pointer (some ⟨b,0,none⟩),.string ⟨#[c]⟩] w fun e w'=>e=.returned (.bool true)/\RS b s (i+1) w'/\w.grownBy w' (some b)):=fun c i w hc h=>DL b s i c w hc h (by omega)
 have TN:Hd (∀(c:UInt8) i w,i<=s.size->¬s.data.toList[i]?=some c->RS b s i w->Calls prog 217 #[.pointer (some ⟨b,0,none⟩),.string ⟨#[c]⟩] w fun e w'=>e=.returned (.bool false)/\RS b s i w'/\w.grownBy w' (some b)):=fun c i w hi hc h=>DN b s i c w hi hc h (by omega)
 have PP:Hd (∀i w,i<=s.size->RS b s i w->Calls prog 219 #[.pointer (some ⟨b,0,none⟩),.int .i64 0] w fun e w'=>e=.returned (.tuple #[.string ⟨(eU true s.data.toList i).toArray⟩,.int .i64 (ak true s.data.toList i).1])/\RS b s (ak true s.data.toList i).2 w'/\w.grownBy w' (some b)):=fun i w hi h=>ac8 b s i w hi h (by omega)
 have PB:Hd (∀i w,i<=s.size->RS b s i w->Calls prog 219 #[.pointer (some ⟨b,0,none⟩),.int .i64 1] w fun e w'=>e=.returned (.tuple #[.string ⟨(eU false s.data.toList i).toArray⟩,.int .i64 (ak false s.data.toList i).1])/\RS b s (ak false s.data.toList i).2 w'/\w.grownBy w' (some b)):=fun i w hi h=>ac9 b s i w hi h (by omega)
 have HI:Hd (RS b s i w):=h;have jE:Hd (i<=s.size):=hi;obtain⟨E,J,P,B,hT⟩:∃E J P B,aH s.data.toList i=(E,J,P,B):=⟨_,_,_,_,rfl⟩;rw[hT];have HT:Hd (aH s.data.toList i=(E,J,P,B)):=hT;clear hT h hi hs
 cases hc1:decide (s.data.toList[i]?=some 45) with
 | false =>
  have hc':=of_decide_eq_false hc1;have eu:Hd (aO 45 true s.data.toList (i)=(0,i,[])):=rG hc';have CT:Hd (Calls prog 217 #[.pointer (some ⟨b,0,none⟩),.string ⟨#[45]⟩] w fun e w'=>e=.returned (.bool false)/\RS b s (i) w'/\w.grownBy w' (some b)):=TN.o 45 (i) w jE.o hc' HI.o;have HJ:Hd (i<=s.size):=jE.o;clear hc1 hc';go_enter func176,ntmps176;go_wp2_with (go_at_call 217;refine CT.o.mono ?_);rintro e u1 ⟨rfl,hr,hg⟩;have HR1:Hd (RS b s i u1):=hr;have aB:Hd (w.grownBy u1 (some b)):=hg;clear hr hg
  cases hc2:decide (s.data.toList[i]?=some 43) with
  | false =>
   have hc':=of_decide_eq_false hc2;have dO:Hd (aO 43 false s.data.toList (i)=(0,i,[])):=rG hc';have CT:Hd (Calls prog 217 #[.pointer (some ⟨b,0,none⟩),.string ⟨#[43]⟩] u1 fun e w'=>e=.returned (.bool false)/\RS b s (i) w'/\u1.grownBy w' (some b)):=TN.o 43 (i) u1 HJ.o hc' HR1.o;clear hc2 hc';go_wp2_with (go_at_call 217;refine CT.o.mono ?_);rintro e v1 ⟨rfl,hr,hg⟩;have HF:Hd (RS b s (i) v1/\w.grownBy v1 (some b)):=⟨hr,af aB.o hg⟩;clear hr hg;have HV:Hd (E=0/\J=i/\P=[]/\B=[]):=by
    have e:=HT.o;unfold aH at e;rw[eu.o]at e;simp only[if_true]at e;rw[dO.o]at e;simp only[if_true]at e;exact⟨(congrArg Prod.fst e).symm,(congrArg (·.2.1) e).symm,(congrArg (·.2.2.1) e).symm,(congrArg (·.2.2.2) e).symm⟩
   go_wp2;refine bodyPost_ret (results_tmp3 rfl _ _ _) rfl ⟨?_,by rw[HV.o.2.1];exact HF.o.1,HF.o.2⟩;rw[HV.o.1,HV.o.2.2.1,HV.o.2.2.2];rfl
  | true =>
   have hc':=of_decide_eq_true hc2;have hO2:aO 43 false s.data.toList (i)=((ak false s.data.toList (i+1)).1,(ak false s.data.toList (i+1)).2,eU false s.data.toList (i+1)):=wM hc';have CT:Hd (Calls prog 217 #[.pointer (some ⟨b,0,none⟩),.string ⟨#[43]⟩] u1 fun e w'=>e=.returned (.bool true)/\RS b s (i+1) w'/\u1.grownBy w' (some b)):=TY.o 43 (i) u1 hc' HR1.o;have HJ2:Hd (i+1<=s.size):=by have:=(List.getElem?_eq_some_iff.1 hc').1;rw[kL.o]at this;exact this
   have CB:Hd (∀w,RS b s (i+1) w->Calls prog 219 #[.pointer (some ⟨b,0,none⟩),.int .i64 1] w fun e w'=>e=.returned (.tuple #[.string ⟨(eU false s.data.toList (i+1)).toArray⟩,.int .i64 (ak false s.data.toList (i+1)).1])/\RS b s (ak false s.data.toList (i+1)).2 w'/\w.grownBy w' (some b)):=fun w h=>PB.o (i+1) w HJ2.o h
   obtain⟨E2,J2,hE2⟩:∃E J,ak false s.data.toList (i+1)=(E,J):=⟨_,_,rfl⟩;obtain⟨P2,hP2⟩:∃P,eU false s.data.toList (i+1)=P:=⟨_,rfl⟩;have o8:¬E2=0->P2=[]:=fun h=>by rw[<-hP2];unfold eU;rw[hE2,if_neg h]
   rw[hE2,hP2]at CB hO2;simp only at CB hO2;have dO:Hd (aO 43 false s.data.toList (i)=(E2,J2,P2)):=hO2;have jP:Hd (¬E2=0->P2=[]):=o8;clear hc2 hc' hE2 hP2 hO2 o8;go_wp2_with (go_at_call 217;refine CT.o.mono ?_);rintro e v1 ⟨rfl,hr,hg⟩;have MH:Hd (RS b s (i+1) v1):=hr;have MI:Hd (w.grownBy v1 (some b)):=af aB.o hg;clear hr hg;have uG:Hd (Calls prog 219 #[.pointer (some ⟨b,0,none⟩),.int .i64 1] v1 fun e w'=>e=.returned (.tuple #[.string ⟨P2.toArray⟩,.int .i64 E2])/\RS b s J2 w'/\v1.grownBy w' (some b)):=CB.o v1 MH.o;go_wp2_with (go_at_call 219;refine uG.o.mono ?_);rintro e v2 ⟨rfl,hr,hg⟩;have HF:Hd (RS b s J2 v2/\w.grownBy v2 (some b)):=⟨hr,af MI.o hg⟩;clear hr hg
   cases hz2:(E2 == 0) with
   | false =>
    have h0:¬E2=0:=by simpa using hz2
    have HV:Hd (E=E2/\J=J2/\P=[]/\B=[]):=by
     have e:=HT.o;unfold aH at e;rw[eu.o]at e;simp only[if_true]at e;rw[dO.o]at e;simp only[if_neg h0]at e;exact⟨(congrArg Prod.fst e).symm,(congrArg (·.2.1) e).symm,(congrArg (·.2.2.1) e).symm,(congrArg (·.2.2.2) e).symm⟩
    clear h0;go_wp2;refine bodyPost_ret (results_tmp3 rfl _ _ _) rfl ⟨?_,by rw[HV.o.2.1];exact HF.o.1,HF.o.2⟩;rw[HV.o.1,HV.o.2.2.1,HV.o.2.2.2];rfl
   | true =>
    have h0:E2=0:=by simpa using hz2
    subst h0;have HV:Hd (E=0/\J=J2/\P=[]/\B=P2):=by
     have e:=HT.o;unfold aH at e;rw[eu.o]at e;simp only[if_true]at e;rw[dO.o]at e;simp only[if_true]at e;exact⟨(congrArg Prod.fst e).symm,(congrArg (·.2.1) e).symm,(congrArg (·.2.2.1) e).symm,(congrArg (·.2.2.2) e).symm⟩
    go_wp2;refine bodyPost_ret (results_tmp3 rfl _ _ _) rfl ⟨?_,by rw[HV.o.2.1];exact HF.o.1,HF.o.2⟩;rw[HV.o.1,HV.o.2.2.1,HV.o.2.2.2];rfl
 | true =>
  have hc':=of_decide_eq_true hc1;have tq:aO 45 true s.data.toList (i)=((ak true s.data.toList (i+1)).1,(ak true s.data.toList (i+1)).2,eU true s.data.toList (i+1)):=wM hc';have CT:Hd (Calls prog 217 #[.pointer (some ⟨b,0,none⟩),.string ⟨#[45]⟩] w fun e w'=>e=.returned (.bool true)/\RS b s (i+1) w'/\w.grownBy w' (some b)):=TY.o 45 (i) w hc' HI.o;have vI:Hd (i+1<=s.size):=by have:=(List.getElem?_eq_some_iff.1 hc').1;rw[kL.o]at this;exact this
  have CA:Hd (∀w,RS b s (i+1) w->Calls prog 219 #[.pointer (some ⟨b,0,none⟩),.int .i64 0] w fun e w'=>e=.returned (.tuple #[.string ⟨(eU true s.data.toList (i+1)).toArray⟩,.int .i64 (ak true s.data.toList (i+1)).1])/\RS b s (ak true s.data.toList (i+1)).2 w'/\w.grownBy w' (some b)):=fun w h=>PP.o (i+1) w vI.o h
  have MJ:Hd ((ak true s.data.toList (i+1)).1=0->(ak true s.data.toList (i+1)).2<=s.size):=fun h=>by have:=Ve (st:=true) (l:=s.data.toList) (i:=i+1) (by rw[kL.o];exact vI.o) h;rw[kL.o]at this;exact this
  obtain⟨E1,J1,hE1⟩:∃E J,ak true s.data.toList (i+1)=(E,J):=⟨_,_,rfl⟩;obtain⟨P1,hP1⟩:∃P,eU true s.data.toList (i+1)=P:=⟨_,rfl⟩;rw[hE1,hP1]at CA tq;rw[hE1]at MJ;simp only at CA tq MJ;have eu:Hd (aO 45 true s.data.toList (i)=(E1,J1,P1)):=tq;clear hc1 hc' hE1 hP1 tq;go_enter func176,ntmps176;go_wp2_with (go_at_call 217;refine CT.o.mono ?_);rintro e u1 ⟨rfl,hr,hg⟩;have MK:Hd (RS b s (i+1) u1):=hr;have ML:Hd (w.grownBy u1 (some b)):=hg;clear hr hg;have CAu:Hd (Calls prog 219 #[.pointer (some ⟨b,0,none⟩),.int .i64 0] u1 fun e w'=>e=.returned (.tuple #[.string ⟨P1.toArray⟩,.int .i64 E1])/\RS b s J1 w'/\u1.grownBy w' (some b)):=CA.o u1 MK.o;go_wp2_with (go_at_call 219;refine CAu.o.mono ?_);rintro e u2 ⟨rfl,hr,hg⟩;have HR1:Hd (RS b s J1 u2):=hr;have aB:Hd (w.grownBy u2 (some b)):=af ML.o hg;clear hr hg
  cases hz1:(E1 == 0) with
  | false =>
   have h0:¬E1=0:=by simpa using hz1
   have HV:Hd (E=E1/\J=J1/\P=[]/\B=[]):=by
    have e:=HT.o;unfold aH at e;rw[eu.o]at e;simp only[if_neg h0]at e;exact⟨(congrArg Prod.fst e).symm,(congrArg (·.2.1) e).symm,(congrArg (·.2.2.1) e).symm,(congrArg (·.2.2.2) e).symm⟩
   clear h0;go_wp2;refine bodyPost_ret (results_tmp3 rfl _ _ _) rfl ⟨?_,by rw[HV.o.2.1];exact HR1.o,aB.o⟩;rw[HV.o.1,HV.o.2.2.1,HV.o.2.2.2];rfl
  | true =>
   have h0:E1=0:=by simpa using hz1
   subst h0;have HJ:Hd (J1<=s.size):=MJ.o rfl;clear hz1
   cases hc2:decide (s.data.toList[J1]?=some 43) with
   | false =>
    have hc':=of_decide_eq_false hc2;have dO:Hd (aO 43 false s.data.toList (J1)=(0,J1,[])):=rG hc';have CT:Hd (Calls prog 217 #[.pointer (some ⟨b,0,none⟩),.string ⟨#[43]⟩] u2 fun e w'=>e=.returned (.bool false)/\RS b s (J1) w'/\u2.grownBy w' (some b)):=TN.o 43 (J1) u2 HJ.o hc' HR1.o;clear hc2 hc';go_wp2_with (go_at_call 217;refine CT.o.mono ?_);rintro e v1 ⟨rfl,hr,hg⟩;have HF:Hd (RS b s (J1) v1/\w.grownBy v1 (some b)):=⟨hr,af aB.o hg⟩;clear hr hg;have HV:Hd (E=0/\J=J1/\P=P1/\B=[]):=by
     have e:=HT.o;unfold aH at e;rw[eu.o]at e;simp only[if_true]at e;rw[dO.o]at e;simp only[if_true]at e;exact⟨(congrArg Prod.fst e).symm,(congrArg (·.2.1) e).symm,(congrArg (·.2.2.1) e).symm,(congrArg (·.2.2.2) e).symm⟩
    go_wp2;refine bodyPost_ret (results_tmp3 rfl _ _ _) rfl ⟨?_,by rw[HV.o.2.1];exact HF.o.1,HF.o.2⟩;rw[HV.o.1,HV.o.2.2.1,HV.o.2.2.2];rfl
   | true =>
    have hc':=of_decide_eq_true hc2;have hO2:aO 43 false s.data.toList (J1)=((ak false s.data.toList (J1+1)).1,(ak false s.data.toList (J1+1)).2,eU false s.data.toList (J1+1)):=wM hc';have CT:Hd (Calls prog 217 #[.pointer (some ⟨b,0,none⟩),.string ⟨#[43]⟩] u2 fun e w'=>e=.returned (.bool true)/\RS b s (J1+1) w'/\u2.grownBy w' (some b)):=TY.o 43 (J1) u2 hc' HR1.o;have HJ2:Hd (J1+1<=s.size):=by have:=(List.getElem?_eq_some_iff.1 hc').1;rw[kL.o]at this;exact this
    have CB:Hd (∀w,RS b s (J1+1) w->Calls prog 219 #[.pointer (some ⟨b,0,none⟩),.int .i64 1] w fun e w'=>e=.returned (.tuple #[.string ⟨(eU false s.data.toList (J1+1)).toArray⟩,.int .i64 (ak false s.data.toList (J1+1)).1])/\RS b s (ak false s.data.toList (J1+1)).2 w'/\w.grownBy w' (some b)):=fun w h=>PB.o (J1+1) w HJ2.o h
    obtain⟨E2,J2,hE2⟩:∃E J,ak false s.data.toList (J1+1)=(E,J):=⟨_,_,rfl⟩;obtain⟨P2,hP2⟩:∃P,eU false s.data.toList (J1+1)=P:=⟨_,rfl⟩;have o8:¬E2=0->P2=[]:=fun h=>by rw[<-hP2];unfold eU;rw[hE2,if_neg h]
    rw[hE2,hP2]at CB hO2;simp only at CB hO2;have dO:Hd (aO 43 false s.data.toList (J1)=(E2,J2,P2)):=hO2;have jP:Hd (¬E2=0->P2=[]):=o8;clear hc2 hc' hE2 hP2 hO2 o8;go_wp2_with (go_at_call 217;refine CT.o.mono ?_);rintro e v1 ⟨rfl,hr,hg⟩;have MH:Hd (RS b s (J1+1) v1):=hr;have MI:Hd (w.grownBy v1 (some b)):=af aB.o hg;clear hr hg;have uG:Hd (Calls prog 219 #[.pointer (some ⟨b,0,none⟩),.int .i64 1] v1 fun e w'=>e=.returned (.tuple #[.string ⟨P2.toArray⟩,.int .i64 E2])/\RS b s J2 w'/\v1.grownBy w' (some b)):=CB.o v1 MH.o;go_wp2_with (go_at_call 219;refine uG.o.mono ?_);rintro e v2 ⟨rfl,hr,hg⟩;have HF:Hd (RS b s J2 v2/\w.grownBy v2 (some b)):=⟨hr,af MI.o hg⟩;clear hr hg
    cases hz2:(E2 == 0) with
    | false =>
     have h0:¬E2=0:=by simpa using hz2
     have HV:Hd (E=E2/\J=J2/\P=[]/\B=[]):=by
      have e:=HT.o;unfold aH at e;rw[eu.o]at e;simp only[if_true]at e;rw[dO.o]at e;simp only[if_neg h0]at e;exact⟨(congrArg Prod.fst e).symm,(congrArg (·.2.1) e).symm,(congrArg (·.2.2.1) e).symm,(congrArg (·.2.2.2) e).symm⟩
     clear h0;go_wp2;refine bodyPost_ret (results_tmp3 rfl _ _ _) rfl ⟨?_,by rw[HV.o.2.1];exact HF.o.1,HF.o.2⟩;rw[HV.o.1,HV.o.2.2.1,HV.o.2.2.2];rfl
    | true =>
     have h0:E2=0:=by simpa using hz2
     subst h0;have HV:Hd (E=0/\J=J2/\P=P1/\B=P2):=by
      have e:=HT.o;unfold aH at e;rw[eu.o]at e;simp only[if_true]at e;rw[dO.o]at e;simp only[if_true]at e;exact⟨(congrArg Prod.fst e).symm,(congrArg (·.2.1) e).symm,(congrArg (·.2.2.1) e).symm,(congrArg (·.2.2.2) e).symm⟩
     go_wp2;refine bodyPost_ret (results_tmp3 rfl _ _ _) rfl ⟨?_,by rw[HV.o.2.1];exact HF.o.1,HF.o.2⟩;rw[HV.o.1,HV.o.2.2.1,HV.o.2.2.2];rfl
open Go.RowKit
def VX(v:Nat)(y1 y2 y3:Int)(x4 x5:ByteArray)(w:World):Prop:=w.heap[v]?=some (.cells #[.int .i64 y1,.int .i64 y2,.int .i64 y3,.string x4,.string x5] 166 (0,0))
theorem VX.cells{v:Nat}{y1 y2 y3:Int}{x4 x5:ByteArray}{w:World}(h:VX v y1 y2 y3 x4 x5 w):w.cell? ⟨v,0,none⟩=some (.int .i64 y1)/\w.cell? ⟨v,1,none⟩=some (.int .i64 y2)/\w.cell? ⟨v,2,none⟩=some (.int .i64 y3)/\w.cell? ⟨v,3,none⟩=some (.string x4)/\w.cell? ⟨v,4,none⟩=some (.string x5) :=
 ⟨by rw[ae h];rfl,by rw[ae h];rfl,by rw[ae h];rfl,by rw[ae h];rfl,by rw[ae h];rfl⟩
theorem VX.f{v:Nat}{y1 y2 y3:Int}{x4 x5:ByteArray}{w:World}(h:VX v y1 y2 y3 x4 x5 w)(o:Nat):w.frozen? ⟨v,o,none⟩=false:=Lib.frozen_of_heap h o
theorem VX.grow{b v:Nat}{y1 y2 y3:Int}{x4 x5:ByteArray}{w w':World}(h:VX v y1 y2 y3 x4 x5 w)(hg:w.grownBy w' (some b))(hn:v≠b):VX v y1 y2 y3 x4 x5 w':=by
 unfold VX at h ⊢;rw[hg.block v ((bz h)) (by simpa using hn)];exact h
theorem VX.set3{v:Nat}{y1 y2 y3:Int}{x4 x5:ByteArray}{w:World}(h:VX v y1 y2 y3 x4 x5 w)(z:ByteArray):VX v y1 y2 y3 z x5 (w.setCell ⟨v,3,none⟩ (.string z)):=by
 unfold VX at h ⊢;simp[World.setCell,Array.getElem?_modify,h]
theorem VX.set4{v:Nat}{y1 y2 y3:Int}{x4 x5:ByteArray}{w:World}(h:VX v y1 y2 y3 x4 x5 w)(z:ByteArray):VX v y1 y2 y3 x4 z (w.setCell ⟨v,4,none⟩ (.string z)):=by
 unfold VX at h ⊢;simp[World.setCell,Array.getElem?_modify,h]
theorem VX.other{v u:Nat}{y1 y2 y3:Int}{x4 x5:ByteArray}{w:World}(h:VX v y1 y2 y3 x4 x5 w)(hn:v≠u)(o:Nat)(x:Value):VX v y1 y2 y3 x4 x5 (w.setCell ⟨u,o,none⟩ x):=by
 unfold VX at h ⊢;rw[<-h];exact heap_setCell_other w _ v x hn
def uH(w:World)(A:Nat)(y1 y2 y3:Int)(x4 x5:ByteArray):World:=((((w.setCell ⟨A,0,none⟩ (.int .i64 y1)).setCell ⟨A,1,none⟩ (.int .i64 y2)).setCell ⟨A,2,none⟩ (.int .i64 y3)).setCell ⟨A,3,none⟩ (.string x4)).setCell ⟨A,4,none⟩ (.string x5)
theorem MM{w:World}{A:Nat}{z1 z2 z3:Int}{z4 z5:ByteArray}(h:VX A z1 z2 z3 z4 z5 w)(y1 y2 y3:Int)(x4 x5:ByteArray):VX A y1 y2 y3 x4 x5 (uH w A y1 y2 y3 x4 x5):=by
 unfold VX at h ⊢;unfold uH;simp[World.setCell,Array.getElem?_modify,h]
theorem yI{b A:Nat}{w W:World}(h:w.grownBy W (some b))(hA:w.heap.size<=A)(o:Nat)(x:Value):w.grownBy (W.setCell ⟨A,o,none⟩ x) (some b) :=
 ⟨h.os,h.tape,h.output,by simpa [World.setCell] using h.size,fun k hk hn=>by rw[<-h.block k hk hn];exact heap_setCell_other W _ k x (by simp;omega)⟩
theorem adb{b A:Nat}{w W:World}(h:w.grownBy W (some b))(hA:w.heap.size<=A)(y1 y2 y3:Int)(x4 x5:ByteArray):w.grownBy (uH W A y1 y2 y3 x4 x5) (some b):=yI (yI (yI (yI (yI h hA _ _) hA _ _) hA _ _) hA _ _) hA _ _
theorem H9{P:Program}{fn:Func}{p u:Tmp}{ty:TypeId}(h:fn.results=#[.cell p ty,.tmp u])(tmps:Array Value)(w:World)(g:Nat)(t:TypeId)(cs:Array Value)(fr:Nat × Nat)(d:TypeDesc)
  (hp:tmps.getD p undef=.pointer (some ⟨g,0,none⟩)) (hg:w.heap[g]?=some (.cells cs t fr)) (hu:P.underlying ty=some d) (hd:(match d with | .struct _ | .array _ _=>true|_=>false)=true) (hi:(P.info? ty).map (·.size)=some cs.size) :
  (results fn tmps).run P w=.ok (.tuple #[.agg cs,tmps.getD u undef]) w:=by
 rw[results_cell_tmp h,hp];simp[asAddr,run_loadVar_row w g t ty cs fr d hg hu hd hi,Result.andThen]
theorem qj{P:Program}{fn:Func}{p u r:Tmp}{ty:TypeId}(h:fn.results=#[.cell p ty,.tmp u,.tmp r])(tmps:Array Value)(w:World)(g:Nat)(t:TypeId)(cs:Array Value)(fr:Nat × Nat)(d:TypeDesc)
  (hp:tmps.getD p undef=.pointer (some ⟨g,0,none⟩)) (hg:w.heap[g]?=some (.cells cs t fr)) (hu:P.underlying ty=some d) (hd:(match d with | .struct _ | .array _ _=>true|_=>false)=true) (hi:(P.info? ty).map (·.size)=some cs.size) :
  (results fn tmps).run P w=.ok (.tuple #[.agg cs,tmps.getD u undef,tmps.getD r undef]) w:=by
 have hp':tmps[p]?.getD undef=.pointer (some ⟨g,0,none⟩):=by simpa using hp
 simp[results,h,Result.andThen,hp',asAddr,run_loadVar_row w g t ty cs fr d hg hu hd hi]
theorem wO{A:Nat}{w W:World}(h:w.grownBy W none)(hA:w.heap.size<=A)(o:Nat)(x:Value):w.grownBy (W.setCell ⟨A,o,none⟩ x) none :=
 ⟨h.os,h.tape,h.output,by simpa [World.setCell] using h.size,fun k hk hn=>by rw[<-h.block k hk hn];exact heap_setCell_other W _ k x (by simp;omega)⟩
theorem tu{A:Nat}{w W:World}(h:w.grownBy W none)(hA:w.heap.size<=A)(y1 y2 y3:Int)(x4 x5:ByteArray):w.grownBy (uH W A y1 y2 y3 x4 x5) none:=wO (wO (wO (wO (wO h hA _ _) hA _ _) hA _ _) hA _ _) hA _ _
open Go.RowKit
def MO(b:Nat)(s:ByteArray)(w:World)(e:Ending)(w':World):Prop :=
 ∃(x1 x2 x3:Int) (x4 x5:List UInt8) (E:Int) (j:Nat),e=.returned (.tuple #[.agg #[.int .i64 x1,.int .i64 x2,.int .i64 x3,.string ⟨x4.toArray⟩,.string ⟨x5.toArray⟩],.int .i64 E]) ∧
  RS b s j w'/\w.grownBy w' (some b)/\E=(dw s.data.toList).1/\(E=0->(dw s.data.toList).2.2=⟨x1,x2,x3,x4,x5⟩)/\(E≠0->(dw s.data.toList).2.1=j)
theorem adc{b:Nat}{s:ByteArray}{i:Nat}{w:World}(h:RS b s i w)(o1 o2:Obj):RS b s i ((w.alloc o1).alloc o2):=h.grow (aP (aP (ai w none) o1) o2)
theorem Ia(w:World)(o1 o2:Obj):((w.alloc o1).alloc o2).heap[w.heap.size+1]?=some o2:=by
 have:=heap_alloc_new (w.alloc o1) o2;simpa using this
theorem ade{b A:Nat}{s:ByteArray}{j:Nat}{w:World}(h:RS b s j w)(hn:b≠A)(y1 y2 y3:Int)(x4 x5:ByteArray):RS b s j (uH w A y1 y2 y3 x4 x5):=((((h.other hn _ _).other hn _ _).other hn _ _).other hn _ _).other hn _ _
theorem Vg(l:List UInt8):dw l=if(bg l).1=0 then(if(aH l (bg l).2.1).1=0 then(if(aH l (bg l).2.1).2.1<l.length then(2,(aH l (bg l).2.1).2.1,zeroV) else(0,0,⟨(bg l).2.2.1,(bg l).2.2.2.1,(bg l).2.2.2.2,(aH l (bg l).2.1).2.2.1,(aH l (bg l).2.1).2.2.2⟩)) else((aH l (bg l).2.1).1,(aH l (bg l).2.1).2.1,zeroV)) else((bg l).1,(bg l).2.1,zeroV):=by
 unfold dw aH
 by_cases h1:(bg l).1=0
 ·rw[if_pos h1,if_pos h1]
  by_cases h2:(aO 45 true l (bg l).2.1).1=0
  ·simp only[if_pos h2]
   by_cases h3:(aO 43 false l (aO 45 true l (bg l).2.1).2.1).1=0
   ·simp only[if_pos h3,if_true]
   ·simp only[if_neg h3]
  ·simp only[if_neg h2]
 ·rw[if_neg h1,if_neg h1]
theorem adf(b:Nat)(s:ByteArray)(w:World)(h:RS b s 0 w)(hs:s.size<=100) :
  Calls prog 136 #[.pointer (some ⟨b,0,none⟩)] w (MO b s w):=by
 have HB:Hd (b<w.heap.size):=by obtain⟨t,h⟩:=h;exact(bz h)
 have HI:Hd (RS b s 0 w):=h;have CN:Hd (∀v w,RS b s 0 w->VB v 0 0 0 w->b≠v->Calls prog 175 #[.pointer (some ⟨b,0,none⟩),.pointer (some ⟨v,0,none⟩)] w fun e w'=>e=.returned (.int .i64 (bg s.data.toList).1)/\RS b s (bg s.data.toList).2.1 w'/\(∃y1 y2 y3,VB v y1 y2 y3 w'/\((bg s.data.toList).1=0->(y1,y2,y3)=(bg s.data.toList).2.2))/\G2 b v w w'):=fun v w h1 h2 h3=>ac7 b v s w h1 h2 h3 (by omega)
 have Ib:Hd (∀i w,i<=s.size->RS b s i w->Calls prog 176 #[.pointer (some ⟨b,0,none⟩)] w fun e w'=>e=.returned (.tuple #[.string ⟨(aH s.data.toList i).2.2.1.toArray⟩,.string ⟨(aH s.data.toList i).2.2.2.toArray⟩,.int .i64 (aH s.data.toList i).1])/\RS b s (aH s.data.toList i).2.1 w'/\w.grownBy w' (some b)):=fun i w hi h=>ada b s i w hi h (by omega)
 have kL:Hd (s.data.toList.length=s.size):=by show s.data.toList.length=s.size;simp
 clear h hs;have rH:=Vg s.data.toList;obtain⟨E0,J0,X1,X2,X3,hN⟩:∃E J A B C,bg s.data.toList=(E,J,A,B,C):=⟨_,_,_,_,_,rfl⟩;obtain⟨E1,J1,P1,B1,hT⟩:∃E J P B,aH s.data.toList J0=(E,J,P,B):=⟨_,_,_,_,rfl⟩;rw[hN]at CN rH;simp only at CN rH;rw[hT]at rH;simp only at rH;have Ar:Hd (E0=0->J0<=s.size):=fun h0=>by
  have:=(PY s.data.toList (by rw[hN];exact h0)).1;rw[hN,kL.o]at this;exact this
 have vI:Hd (J0<=s.size->E1=0->J1<=s.size):=fun hj h0=>by
  rw[<-kL.o]at hj ⊢;unfold aH at hT
  by_cases h2:(aO 45 true s.data.toList J0).1=0
  ·have l1:=Vf hj h2;rw[if_pos h2]at hT
   by_cases h3:(aO 43 false s.data.toList (aO 45 true s.data.toList J0).2.1).1=0
   ·rw[if_pos h3]at hT;have l2:=Vf l1 h3;have e:=congrArg (·.2.1) hT;simp only at e;rw[<-e];exact l2
   ·rw[if_neg h3]at hT;exact absurd ((congrArg Prod.fst hT).trans h0) h3
  ·rw[if_neg h2]at hT;exact absurd ((congrArg Prod.fst hT).trans h0) h2
 have CT0:Hd (∀w,J0<=s.size->RS b s J0 w->Calls prog 176 #[.pointer (some ⟨b,0,none⟩)] w fun e w'=>e=.returned (.tuple #[.string ⟨P1.toArray⟩,.string ⟨B1.toArray⟩,.int .i64 E1])/\RS b s J1 w'/\w.grownBy w' (some b)):=fun w hj h=>by
  have:=Ib.o J0 w hj h;rw[hT]at this;exact this
 have HV:Hd (dw s.data.toList=if E0=0 then(if E1=0 then(if J1<s.data.toList.length then(2,J1,zeroV) else(0,0,⟨X1,X2,X3,P1,B1⟩)) else(E1,J1,zeroV)) else(E0,J0,zeroV)):=rH;clear hN hT rH Ib;go_enter func136,ntmps136;go_wp2_with (go_at_call 175;refine(CN.o _ _ (adc HI.o _ _) (Ia w _ _) (by have:=HB.o;omega)).mono ?_);rintro e w1 ⟨rfl,hr1,⟨y1,y2,y3,hvb,hy⟩,hg1⟩;obtain⟨A,hA⟩:=zN (w.heap.size);have tC:Hd (VX A 0 0 0 ⟨#[]⟩ ⟨#[]⟩ w1):=by
  show w1.heap[A]?=_;rw[<-hA,hg1.block w.heap.size (by simp;omega) (by have:=HB.o;omega) (by omega),Lib.alloc_old _ _ _ (by simp)];exact heap_alloc_new w _
 have HG:Hd (w.grownBy w1 (some b)):=by
  refine⟨hg1.os,hg1.tape,hg1.output,by have:=hg1.size;simp at this;omega,fun k hk hn=>?_⟩;rw[hg1.block k (by simp;omega) (by simpa using hn) (by omega),Lib.alloc_old _ _ _ (by simp;omega),Lib.alloc_old _ _ _ hk]
 have HR1:Hd (RS b s J0 w1):=hr1;have HY:Hd (E0=0->(y1,y2,y3)=(X1,X2,X3)):=hy;have HX:Hd (VX (A+1) y1 y2 y3 ⟨#[]⟩ ⟨#[]⟩ w1):=by rw[<-hA];exact hvb
 have DX:Hd (b<A):=by rw[<-hA];exact HB.o
 have lY:Hd (w.heap.size<=A):=Nat.le_of_eq hA;rw[hA];clear hA hr1 hvb hy hg1;have END:Hd (∀(W:World) (j:Nat) (z1 z2 z3:Int) (x4 x5:List UInt8) (E:Int),RS b s j W->VX A 0 0 0 ⟨#[]⟩ ⟨#[]⟩ W->w.grownBy W (some b)->E=(dw s.data.toList).1->(E=0->(dw s.data.toList).2.2=⟨z1,z2,z3,x4,x5⟩)->(E≠0->(dw s.data.toList).2.1=j) →
   VX A z1 z2 z3 ⟨x4.toArray⟩ ⟨x5.toArray⟩ (uH W A z1 z2 z3 ⟨x4.toArray⟩ ⟨x5.toArray⟩)/\MO b s w (.returned (.tuple #[.agg #[.int .i64 z1,.int .i64 z2,.int .i64 z3,.string ⟨x4.toArray⟩,.string ⟨x5.toArray⟩],.int .i64 E])) (uH W A z1 z2 z3 ⟨x4.toArray⟩ ⟨x5.toArray⟩)):=by
  intro W j z1 z2 z3 x4 x5 E h1 h2 h3 h4 h5 h6;exact⟨MM h2 _ _ _ _ _,z1,z2,z3,x4,x5,E,j,rfl,ade h1 (by have:=DX.o;omega) _ _ _ _ _,adb h3 lY.o _ _ _ _ _,h4,h5,h6⟩
 cases hz:(E0 == 0) with
 | false =>
  obtain⟨v0,v1,v2,v3,v4⟩:=HX.o.cells;obtain⟨ca0,ca1,ca2,ca3,ca4⟩:=tC.o.cells;have ra:=tC.o.f;have HE:Hd (E0=(dw s.data.toList).1/\(dw s.data.toList).2.1=J0/\E0≠0):=by
   have h0:¬E0=0:=by simpa using hz
   refine⟨?_,?_,h0⟩<;>(rw[HV.o,if_neg h0])
  go_wp2;obtain⟨hrow,hpost⟩:=END.o w1 J0 0 0 0 [] [] E0 HR1.o tC.o HG.o HE.o.1 (fun h=>absurd h HE.o.2.2) (fun _=>HE.o.2.1);exact bodyPost_ret (H9 (p:=2) (u:=3) rfl _ _ A _ _ (0,0) _ rfl hrow underlying166 rfl (by kernel_rfl)) rfl hpost
 | true =>
  have hE:E0=0:=by simpa using hz
  subst hE;clear hz;have hj0:=Ar.o rfl;have pO:Hd (dw s.data.toList=if E1=0 then(if J1<s.data.toList.length then(2,J1,zeroV) else(0,0,⟨X1,X2,X3,P1,B1⟩)) else(E1,J1,zeroV)):=by
   show dw s.data.toList=_;rw[HV.o,if_pos rfl]
  have HY2:Hd (y1=X1/\y2=X2/\y3=X3):=by
   have hy:=HY.o rfl;simp only[Prod.mk.injEq]at hy;exact hy
  clear HV HY;have CTw:Hd (Calls prog 176 #[.pointer (some ⟨b,0,none⟩)] w1 fun e w'=>e=.returned (.tuple #[.string ⟨P1.toArray⟩,.string ⟨B1.toArray⟩,.int .i64 E1])/\RS b s J1 w'/\w1.grownBy w' (some b)):=CT0.o w1 hj0 HR1.o;have HJs:Hd (E1=0->J1<=s.size):=vI.o hj0;clear hj0;go_wp2_with (first|(go_at_call 176;refine CTw.o.mono ?_));rintro e u1 ⟨rfl,hr,hg⟩;have MK:Hd (RS b s J1 u1):=hr;have MP:Hd (VX (A+1) y1 y2 y3 ⟨#[]⟩ ⟨#[]⟩ u1):=HX.o.grow hg (by have:=DX.o;omega);have MQ:Hd (VX A 0 0 0 ⟨#[]⟩ ⟨#[]⟩ u1):=tC.o.grow hg (by have:=DX.o;omega);have ML:Hd (w.grownBy u1 (some b)):=af HG.o hg;clear hr hg;obtain⟨v0,v1,v2,v3,v4⟩:=MP.o.cells;have rv:=MP.o.f;obtain⟨ca0,ca1,ca2,ca3,ca4⟩:=MQ.o.cells;have ra:=MQ.o.f;obtain⟨U,hU⟩:=zN ((u1.setCell ⟨A+1,3,none⟩ (.string ⟨P1.toArray⟩)).setCell ⟨A+1,4,none⟩ (.string ⟨B1.toArray⟩));have Ic:Hd (RS b s J1 U):=by
   show RS b s J1 U;rw[<-hU];exact(MK.o.other (by have:=DX.o;omega) _ _).other (by have:=DX.o;omega) _ _
  have HXU:Hd (VX (A+1) y1 y2 y3 ⟨P1.toArray⟩ ⟨B1.toArray⟩ U):=by
   show VX _ _ _ _ _ _ U;rw[<-hU];exact(MP.o.set3 _).set4 _
  have MR:Hd (VX A 0 0 0 ⟨#[]⟩ ⟨#[]⟩ U):=by
   show VX _ _ _ _ _ _ U;rw[<-hU];exact(MQ.o.other (by omega) _ _).other (by omega) _ _
  have MS:Hd (w.grownBy U (some b)):=by
   show w.grownBy U (some b);have:=lY.o;rw[<-hU];exact yI (yI ML.o (by omega) _ _) (by omega) _ _
  have CE:Hd (Calls prog 177 #[.pointer (some ⟨b,0,none⟩)] ((u1.setCell ⟨A+1,3,none⟩ (.string ⟨P1.toArray⟩)).setCell ⟨A+1,4,none⟩ (.string ⟨B1.toArray⟩)) fun e w'=>e=.returned (.bool (decide (J1=s.size)))/\∃n,w'=U.drewN n):=by
   show Calls _ _ _ _ _;rw[hU];exact ac1 b s J1 U Ic.o
  have HU:Hd ((u1.setCell ⟨A+1,3,none⟩ (.string ⟨P1.toArray⟩)).setCell ⟨A+1,4,none⟩ (.string ⟨B1.toArray⟩)=U):=hU;clear hU
  cases hz1:(E1 == 0) with
  | false =>
   have HE:Hd (E1=(dw s.data.toList).1/\(dw s.data.toList).2.1=J1/\E1≠0):=by
    have h0:¬E1=0:=by simpa using hz1
    refine⟨?_,?_,h0⟩<;>(rw[pO.o,if_neg h0])
   go_wp2;obtain⟨hrow,hpost⟩:=END.o U J1 0 0 0 [] [] E1 Ic.o MR.o MS.o HE.o.1 (fun h=>absurd h HE.o.2.2) (fun _=>HE.o.2.1);rw[HU.o];exact bodyPost_ret (H9 (p:=2) (u:=3) rfl _ _ A _ _ (0,0) _ rfl hrow underlying166 rfl (by kernel_rfl)) rfl hpost
  | true =>
   have h0:E1=0:=by simpa using hz1
   subst h0;clear hz1;have hj:=HJs.o rfl
   cases hJ:decide (J1=s.size) with
   | false =>
    rw[hJ]at CE;have HE:Hd ((2:Int)=(dw s.data.toList).1/\(dw s.data.toList).2.1=J1):=by
     have h1:J1<s.data.toList.length:=by rw[kL.o];have:=of_decide_eq_false hJ;omega
     refine⟨?_,?_⟩<;>(rw[pO.o,if_pos rfl,if_pos h1])
    clear hj hJ;go_wp2_with (go_at_call 177;refine CE.o.mono ?_);rintro e u2 ⟨rfl,n,hn⟩;have HR2:Hd (RS b s J1 u2):=by show RS b s J1 u2;rw[hn];exact Ic.o.drew n
    have HA2:Hd (VX A 0 0 0 ⟨#[]⟩ ⟨#[]⟩ u2):=by show VX _ _ _ _ _ _ u2;rw[hn];exact MR.o
    have HG2:Hd (w.grownBy u2 (some b)):=by show w.grownBy u2 (some b);rw[hn];exact au MS.o n
    clear hn v0 v1 v2 v3 v4 rv ca0 ca1 ca2 ca3 ca4 ra;obtain⟨ca0,ca1,ca2,ca3,ca4⟩:=HA2.o.cells;have ra:=HA2.o.f;go_wp2;obtain⟨hrow,hpost⟩:=END.o u2 J1 0 0 0 [] [] 2 HR2.o HA2.o HG2.o HE.o.1 (fun h=>absurd h (by decide)) (fun _=>HE.o.2);exact bodyPost_ret (H9 (p:=2) (u:=3) rfl _ _ A _ _ (0,0) _ rfl hrow underlying166 rfl (by kernel_rfl)) rfl hpost
   | true =>
    rw[hJ]at CE;have HE:Hd ((0:Int)=(dw s.data.toList).1/\(dw s.data.toList).2.2=⟨y1,y2,y3,P1,B1⟩):=by
     have h1:¬J1<s.data.toList.length:=by rw[kL.o];have:=of_decide_eq_true hJ;omega
     obtain⟨e1,e2,e3⟩:=HY2.o;refine⟨?_,?_⟩<;>(rw[pO.o,if_pos rfl,if_neg h1])
     rw[e1,e2,e3]
    clear hj hJ;go_wp2_with (go_at_call 177;refine CE.o.mono ?_);rintro e u2 ⟨rfl,n,hn⟩;have HR2:Hd (RS b s J1 u2):=by show RS b s J1 u2;rw[hn];exact Ic.o.drew n
    have HA2:Hd (VX A 0 0 0 ⟨#[]⟩ ⟨#[]⟩ u2):=by show VX _ _ _ _ _ _ u2;rw[hn];exact MR.o
    have HX2:Hd (VX (A+1) y1 y2 y3 ⟨P1.toArray⟩ ⟨B1.toArray⟩ u2):=by show VX _ _ _ _ _ _ u2;rw[hn];exact HXU.o
    have HG2:Hd (w.grownBy u2 (some b)):=by show w.grownBy u2 (some b);rw[hn];exact au MS.o n
    clear hn v0 v1 v2 v3 v4 rv ca0 ca1 ca2 ca3 ca4 ra;obtain⟨ca0,ca1,ca2,ca3,ca4⟩:=HA2.o.cells;have ra:=HA2.o.f;obtain⟨v0,v1,v2,v3,v4⟩:=HX2.o.cells;go_wp2;obtain⟨hrow,hpost⟩:=END.o u2 J1 y1 y2 y3 P1 B1 0 HR2.o HA2.o HG2.o HE.o.1 (fun _=>HE.o.2) (fun h=>absurd rfl h);exact bodyPost_ret (H9 (p:=2) (u:=3) rfl _ _ A _ _ (0,0) _ rfl hrow underlying166 rfl (by kernel_rfl)) rfl hpost
open Go.RowKit
theorem adg(l:List UInt8)(h:¬(dw l).1=0):(dw l).2.2=zeroV:=by
 unfold dw at h ⊢
 repeat' split
 all_goals first|rfl|(exfalso;simp_all)
theorem adh(l:List UInt8)(h:(dw l).1=0):(dw l).2.1=0:=by
 unfold dw at h ⊢
 repeat' split
 all_goals first|rfl|(exfalso;simp_all)
def Vh(v:Vv):Value:=.agg #[.int .i64 v.major,.int .i64 v.minor,.int .i64 v.patch,.string ⟨v.pre.toArray⟩,.string ⟨v.build.toArray⟩]
theorem parse_any(s:ByteArray)(w:World)(hs:s.size<2 ^ 62) :
  Calls prog 95 #[.string s] w fun e w'=>e=.returned (.tuple #[Vh (jT s.data.toList).2.2,.int .i64 (jT s.data.toList).1,.int .i64 ((jT s.data.toList).2.1:Nat)])/\w.grownBy w' none:=by
 by_cases h100:100<s.size
 ·have hp:jT s.data.toList=(1,0,zeroV):=by unfold jT;rw[if_pos (by simpa using h100)]
  rw[hp];clear hp;go_enter func95,ntmps95;go_wp2;exact bodyPost_ret (qj (p:=2) (u:=3) (r:=4) rfl _ _ w.heap.size _ _ (0,0) _ rfl (heap_alloc_new w _) underlying166 rfl (by kernel_rfl)) rfl ⟨rfl,aP (ai w none) _⟩
 ·have hp:jT s.data.toList=dw s.data.toList:=by unfold jT;rw[if_neg (by simpa using h100)]
  rw[hp];have CV:Hd (∀b w,RS b s 0 w->Calls prog 136 #[.pointer (some ⟨b,0,none⟩)] w (MO b s w)):=fun b w h=>adf b s w h (by omega)
  clear hp hs;go_enter func95,ntmps95;go_wp2_with (go_at_call 136;refine(CV.o _ _ ⟨_,Ia w _ _⟩).mono ?_);rintro e w1 ⟨x1,x2,x3,x4,x5,E,j,rfl,hr,hg,hE,hok,herr⟩;obtain⟨A,hA⟩:=zN (w.heap.size);have tC:Hd (VX A 0 0 0 ⟨#[]⟩ ⟨#[]⟩ w1):=by
   show w1.heap[A]?=_;rw[<-hA,hg.block w.heap.size (by simp;omega) (by simp),Lib.alloc_old _ _ _ (by simp)];exact heap_alloc_new w _
  have HG:Hd (w.grownBy w1 none):=by
   refine⟨hg.os,hg.tape,hg.output,by have:=hg.size;simp at this;omega,fun k hk _=>?_⟩;rw[hg.block k (by simp;omega) (by simp;omega),Lib.alloc_old _ _ _ (by simp;omega),Lib.alloc_old _ _ _ hk]
  have lY:Hd (w.heap.size<=A):=Nat.le_of_eq hA;have HE:Hd (E=(dw s.data.toList).1/\(E=0->(dw s.data.toList).2.2=⟨x1,x2,x3,x4,x5⟩)/\(E≠0->(dw s.data.toList).2.1=j)):=⟨hE,hok,herr⟩;rw[hA]at hr;have HR:Hd (RS (A+1) s j w1):=hr;rw[hA];clear hA hr hg hE hok herr;obtain⟨ca0,ca1,ca2,ca3,ca4⟩:=tC.o.cells;have ra:=tC.o.f;have r1:=HR.o.c1;have hlt1:A+1<w1.heap.size:=by obtain⟨t,h⟩:=HR.o;exact(bz h)
  have hlt0:A<w1.heap.size:=by omega
  cases hz:(E == 0) with
  | false =>
   go_wp2;obtain⟨W,hW⟩:=zN (w1.alloc (.cells #[.int .i64 x1,.int .i64 x2,.int .i64 x3,.string ⟨x4.toArray⟩,.string ⟨x5.toArray⟩] 166));have hgW:w1.grownBy W none:=by rw[<-hW];exact aP (ai w1 none) _
   have MW:Hd (VX A 0 0 0 ⟨#[]⟩ ⟨#[]⟩ W):=by show W.heap[A]?=_;rw[hgW.block A hlt0 (by simp)];exact tC.o
   have HRW:Hd (RS (A+1) s j W):=HR.o.grow hgW;have dW:Hd (w.grownBy W none):=af HG.o hgW;rw[hW];clear hW hgW ca0 ca1 ca2 ca3 ca4 ra r1 hlt0 hlt1 HR HG tC;obtain⟨ca0,ca1,ca2,ca3,ca4⟩:=MW.o.cells;have ra:=MW.o.f;have r1:=HRW.o.c1;have HF:Hd ((dw s.data.toList).2.2=zeroV/\(dw s.data.toList).2.1=j/\(dw s.data.toList).1=E):=by
    have h0:¬E=0:=by simpa using hz
    have h:=HE.o;exact⟨adg _ (by rw[<-h.1];exact h0),h.2.2 h0,h.1.symm⟩
   go_region
   go_wp2;refine bodyPost_ret (qj (p:=2) (u:=3) (r:=4) rfl _ _ A _ _ (0,0) _ rfl (MM MW.o 0 0 0 ⟨#[]⟩ ⟨#[]⟩) underlying166 rfl (by kernel_rfl)) rfl ⟨?_,au (tu dW.o lY.o 0 0 0 ⟨#[]⟩ ⟨#[]⟩) 1⟩;rw[HF.o.1,HF.o.2.1,HF.o.2.2];rfl
  | true =>
   have hE0:E=0:=by simpa using hz
   have HF:Hd ((dw s.data.toList).2.2=⟨x1,x2,x3,x4,x5⟩/\(dw s.data.toList).2.1=0/\(dw s.data.toList).1=0):=by
    have h:=HE.o;have h1:(dw s.data.toList).1=0:=by rw[<-h.1];exact hE0
    exact⟨h.2.1 hE0,adh _ h1,h1⟩
   subst hE0;go_wp2;refine bodyPost_ret (qj (p:=2) (u:=3) (r:=4) rfl _ _ A _ #[.int .i64 x1,.int .i64 x2,.int .i64 x3,.string ⟨x4.toArray⟩,.string ⟨x5.toArray⟩] (0,0) _ rfl ((Lib.alloc_old _ _ _ (by simpa [World.setCell] using hlt0)).trans (MM tC.o x1 x2 x3 ⟨x4.toArray⟩ ⟨x5.toArray⟩)) underlying166 rfl (by kernel_rfl)) rfl ⟨?_,aP (tu HG.o lY.o x1 x2 x3 ⟨x4.toArray⟩ ⟨x5.toArray⟩) _⟩;rw[HF.o.1,HF.o.2.1,HF.o.2.2];rfl
end Go.Proofs.YtmkjelchiacogaaGreatDoor
