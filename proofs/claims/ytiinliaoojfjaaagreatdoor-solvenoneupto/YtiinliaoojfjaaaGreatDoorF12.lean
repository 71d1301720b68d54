import Derived.Test.YtiinliaoojfjaaaGreatDoorF09
import Derived.Test.YtiinliaoojfjaaaGreatDoorF10
import Derived.Test.YtiinliaoojfjaaaGreatDoorF06
set_option linter.all false
set_option maxRecDepth 100000
set_option maxHeartbeats 0
open Go.Proofs.Tryz
namespace Go.Proofs.YtiinliaoojfjaaaGreatDoor
open Go.RowKit
structure G2(b v:Nat)(w w':World):Prop where
 os:w'.os=w.os
 tape:w'.tape=w.tape
 output:w'.output=w.output
 size:w.heap.size<=w'.heap.size
 block:∀k,k<w.heap.size->k≠b->k≠v->w'.heap[k]?=w.heap[k]?
theorem G2.refl(b v:Nat)(w:World):G2 b v w w:=⟨rfl,rfl,rfl,Nat.le_refl _,fun _ _ _ _=>rfl⟩
theorem G2.step{b v:Nat}{w w1 w2:World}(h:G2 b v w w1)(hg:w1.grownBy w2 (some b)):G2 b v w w2 :=
 ⟨hg.os.trans h.os,hg.tape.trans h.tape,hg.output.trans h.output,Nat.le_trans h.size hg.size,fun k hk h1 h2=>(hg.block k (Nat.lt_of_lt_of_le hk h.size) (by simpa using h1)).trans (h.block k hk h1 h2)⟩
theorem G2.drew{b v:Nat}{w w1:World}(h:G2 b v w w1)(n:Nat):G2 b v w (w1.drewN n):=⟨h.os,h.tape,h.output,h.size,h.block⟩
theorem G2.set{b v:Nat}{w w1:World}(h:G2 b v w w1)(o:Nat)(x:Value):G2 b v w (w1.setCell ⟨v,o,none⟩ x) :=
 ⟨h.os,h.tape,h.output,by simpa [World.setCell] using h.size,fun k hk h1 h2=>by rw[<-h.block k hk h1 h2];exact heap_setCell_other w1 _ k x (fun e=>h2 e)⟩
def VB(v:Nat)(x1 x2 x3:Int)(w:World):Prop:=w.heap[v]?=some (.cells #[.int .i64 x1,.int .i64 x2,.int .i64 x3,.string ⟨#[]⟩,.string ⟨#[]⟩] 150 (0,0))
theorem VB.cell{v:Nat}{x1 x2 x3:Int}{w:World}(h:VB v x1 x2 x3 w):w.cell? ⟨v,0,none⟩=some (.int .i64 x1)/\w.cell? ⟨v,1,none⟩=some (.int .i64 x2)/\w.cell? ⟨v,2,none⟩=some (.int .i64 x3) :=
 ⟨by rw[ah h];rfl,by rw[ah h];rfl,by rw[ah h];rfl⟩
theorem VB.f{v:Nat}{x1 x2 x3:Int}{w:World}(h:VB v x1 x2 x3 w)(o:Nat):w.frozen? ⟨v,o,none⟩=false:=Lib.frozen_of_heap h o
theorem VB.grow{b v:Nat}{x1 x2 x3:Int}{w w':World}(h:VB v x1 x2 x3 w)(hg:w.grownBy w' (some b))(hn:v≠b):VB v x1 x2 x3 w':=by
 unfold VB at h ⊢;rw[hg.block v ((aC h)) (by simpa using hn)];exact h
theorem VB.drew{v:Nat}{x1 x2 x3:Int}{w:World}(h:VB v x1 x2 x3 w)(n:Nat):VB v x1 x2 x3 (w.drewN n):=h
theorem VB.set0{v:Nat}{x1 x2 x3:Int}{w:World}(h:VB v x1 x2 x3 w)(y:Int):VB v y x2 x3 (w.setCell ⟨v,0,none⟩ (.int .i64 y)):=by
 unfold VB at h ⊢;simp[World.setCell,Array.getElem?_modify,h]
theorem VB.set1{v:Nat}{x1 x2 x3:Int}{w:World}(h:VB v x1 x2 x3 w)(y:Int):VB v x1 y x3 (w.setCell ⟨v,1,none⟩ (.int .i64 y)):=by
 unfold VB at h ⊢;simp[World.setCell,Array.getElem?_modify,h]
theorem VB.set2{v:Nat}{x1 x2 x3:Int}{w:World}(h:VB v x1 x2 x3 w)(y:Int):VB v x1 x2 y (w.setCell ⟨v,2,none⟩ (.int .i64 y)):=by
 unfold VB at h ⊢;simp[World.setCell,Array.getElem?_modify,h]
theorem RS.other{b v:Nat}{s:ByteArray}{i:Nat}{w:World}(h:RS b s i w)(hn:b≠v)(o:Nat)(x:Value):RS b s i (w.setCell ⟨v,o,none⟩ x):=by
 obtain⟨t,h⟩:=h;exact⟨t,by rw[<-h];exact heap_setCell_other w _ b x hn⟩
def yZ(l:List UInt8)(j:Nat)(x1 x2 x3:Int):Int × Nat × Int × Int × Int:=(0,j,x1,x2,x3)
def uj(l:List UInt8)(j:Nat)(x1 x2:Int):Int × Nat × Int × Int × Int :=
 if l[j]?=some 46 then(if(rdNum l (j+1)).1=0 then yZ l (rdNum l (j+1)).2.2 x1 x2 (rdNum l (j+1)).2.1 else((rdNum l (j+1)).1,(rdNum l (j+1)).2.2,0,0,0)) else(2,j,0,0,0)
def xK(l:List UInt8)(j:Nat)(x1:Int):Int × Nat × Int × Int × Int :=
 if l[j]?=some 46 then(if(rdNum l (j+1)).1=0 then uj l (rdNum l (j+1)).2.2 x1 (rdNum l (j+1)).2.1 else((rdNum l (j+1)).1,(rdNum l (j+1)).2.2,0,0,0)) else(2,j,0,0,0)
theorem S9(l:List UInt8):bT l=if(rdNum l 0).1=0 then xK l (rdNum l 0).2.2 (rdNum l 0).2.1 else((rdNum l 0).1,(rdNum l 0).2.2,0,0,0):=rfl
theorem Tc(l:List UInt8)(i:Nat)(hi:i<=l.length):(rdNum l i).2.2<=l.length:=by
 have:=mG aP l i hi;unfold rdNum
 repeat' split
 all_goals first|exact hi|(simp only;omega)
theorem ip0(v:Nat)(w:World):(Instr.index 220 (.agg #[.pointer (some ⟨v,0,none⟩),.pointer (some ⟨v,1,none⟩),.pointer (some ⟨v,2,none⟩)]) (.int .i64 0)).run prog w=.ok (.pointer (some ⟨v,0,none⟩)) w:=by kernel_rfl
theorem ip1(v:Nat)(w:World):(Instr.index 220 (.agg #[.pointer (some ⟨v,0,none⟩),.pointer (some ⟨v,1,none⟩),.pointer (some ⟨v,2,none⟩)]) (.int .i64 1)).run prog w=.ok (.pointer (some ⟨v,1,none⟩)) w:=by kernel_rfl
theorem ip2(v:Nat)(w:World):(Instr.index 220 (.agg #[.pointer (some ⟨v,0,none⟩),.pointer (some ⟨v,1,none⟩),.pointer (some ⟨v,2,none⟩)]) (.int .i64 2)).run prog w=.ok (.pointer (some ⟨v,2,none⟩)) w:=by kernel_rfl
theorem abY(b v:Nat)(s:ByteArray)(w:World)(h:RS b s 0 w)(hv:VB v 0 0 0 w)(hbv:b≠v)(hs:s.size<2 ^ 62) :
  Calls prog 130 #[.pointer (some ⟨b,0,none⟩),.pointer (some ⟨v,0,none⟩)] w fun e w'=>e=.returned (.int .i64 (bT s.data.toList).1)/\RS b s (bT s.data.toList).2.1 w'/\(∃y1 y2 y3,VB v y1 y2 y3 w'/\((bT s.data.toList).1=0->(y1,y2,y3)=(bT s.data.toList).2.2))/\G2 b v w w':=by
 obtain⟨l,hl⟩:∃l,l=s.data.toList:=⟨_,rfl⟩;have hll:l.length=s.size:=by rw[hl];simp
 have bM:=ae hll;obtain⟨R,hR⟩:=zN (bT l);rw[<-hl,hR];have Bf:=S9 l;rw[hR]at Bf;have HR:=ae Bf;have CN:Hd (∀i w,i<=s.size->RS b s i w->Calls prog 151 #[.pointer (some ⟨b,0,none⟩)] w fun e w'=>e=.returned (.tuple #[.int .i64 (rdNum l i).2.1,.int .i64 (rdNum l i).1])/\RS b s (rdNum l i).2.2 w'/\w.grownBy w' (some b)):=fun i w hi h=>by rw[hl];exact RJ b s i w hi h hs
 have TY:=ae (fun i w (hc:l[i]?=some 46) (h:RS b s i w)=>ug b s i 46 w (by rw[<-hl];exact hc) h hs);have TN:Hd (∀i w,i<=s.size->¬l[i]?=some 46->RS b s i w->Calls prog 148 #[.pointer (some ⟨b,0,none⟩),.string ⟨#[46]⟩] w fun e w'=>e=.returned (.bool false)/\RS b s i w'/\w.grownBy w' (some b)):=fun i w hi hc h=>pX b s i 46 w hi (by rw[<-hl];exact hc) h hs
 have HI:Hd (RS b s 0 w/\VB v 0 0 0 w):=⟨h,hv⟩;have fV:=ae hbv;have oP:Hd (∀i,i<=s.size->(rdNum l i).2.2<=s.size):=fun i hi=>by have:=Tc l i (by rw[hll];exact hi);rw[hll]at this;exact this
 clear hl hll hR Bf h hv hbv hs;go_enter func130,ntmps130;go_wp2;go_quiet (fail);go_wp2;go_loopw [18] (fun vi wr=>∃(k j:Nat) (x1 x2 x3:Int),vi=.int .i64 k/\j<=s.size/\RS b s j wr/\VB v x1 x2 x3 wr/\G2 b v w wr/\((k=0/\j=0/\x2=0/\x3=0)\/(k=1/\R=xK l j x1/\x3=0)\/(k=2/\R=uj l j x1 x2)\/(k=3/\R=yZ l j x1 x2 x3))) (fun vi _=>3-(intOf vi).toNat)
 case atStart=>exact⟨0,0,0,0,0,rfl,Nat.zero_le _,HI.o.1.drew _,HI.o.2.drew _,(G2.refl b v w).drew _,Or.inl ⟨rfl,rfl,rfl,rfl⟩⟩
 case round =>
  obtain⟨k,j,x1,x2,x3,rfl,hj,hrs,hvb,hg2,hcase⟩:=hrel;have HJ:=ae hj;have aA:=ae hrs;have Bg:=ae hvb;have HG:=ae hg2;clear hj hrs hvb hg2
  rcases hcase with⟨rfl,rfl,hx2,hx3⟩|⟨rfl,hrk,hx3⟩|⟨rfl,hrk⟩|⟨rfl,hrk⟩
  ·have ix:=ip0 v wr;have uk:=ae hx3;have HRk:=ae HR.o;have iG:=ae HJ.o;have ED:=ae aA.o;have EF:=ae Bg.o;have lN:=ae HG.o;clear hx2 hx3 HR;have lQ:=ae (CN.o (0) wr iG.o ED.o);have lS:=ae (oP.o (0) iG.o);obtain⟨E,hE⟩:=zN ((rdNum l (0)).1);obtain⟨V,hV⟩:=zN ((rdNum l (0)).2.1);obtain⟨Q,hQ⟩:=zN ((rdNum l (0)).2.2);rw[hE,hV,hQ]at lQ;rw[hQ]at lS;rw[hE,hV,hQ]at HRk;clear hE hV hQ;go_wp2_with (go_at_call 151;refine lQ.o.mono ?_);rintro e wq ⟨rfl,hrq,hgq⟩;have oQ:=ae (EF.o.grow hgq (Ne.symm fV.o));have xM:=ae (lN.o.step hgq);have xN:=ae hrq;clear hrq hgq;have cc:=oQ.o.cell.1;have ff:=oQ.o.f 0
   cases hz:(E == 0) with
   | false =>
    have HZ:Hd (R=(E,Q,0,0,0)):=by show R=_;rw[HRk.o,if_neg (by simpa using hz)]
    go_wp2;go_ret;refine⟨bF (by rw[HZ.o]),by rw[HZ.o];exact xN.o.other fV.o _ _,⟨_,_,_,oQ.o.set0 _,fun hh=>?_⟩,xM.o.set _ _⟩;rw[HZ.o]at hh;exact absurd hh (by simpa using hz)
   | true =>
    have HZ:Hd (R=xK l Q V):=by show R=_;rw[HRk.o,if_pos (by simpa using hz)]
    go_wp2;go_roundw
    case rel=>exact⟨1,Q,V,x2,x3,rfl,lS.o,xN.o.other fV.o _ _,oQ.o.set0 _,xM.o.set _ _,Or.inr (Or.inl ⟨rfl,HZ.o,uk.o⟩)⟩
    case measure=>simp[intOf]
  ·have ix:=ip1 v wr;have uk:=ae hx3;have qg:=ae hrk;clear hrk hx3
   cases hc:decide (l[j]?=some 46) with
   | false =>
    have hc':=of_decide_eq_false hc;have HZ:Hd (R=(2,j,0,0,0)):=by show R=_;rw[qg.o];unfold xK;rw[if_neg hc']
    have CT:=ae (TN.o j wr HJ.o hc' aA.o);clear hc hc';go_wp2_with (go_at_call 148;refine CT.o.mono ?_);rintro e wt ⟨rfl,hrt,hgt⟩;have HF:Hd (RS b s j wt/\G2 b v w wt):=⟨hrt,HG.o.step hgt⟩;have KP:=ae (Bg.o.grow hgt (Ne.symm fV.o));clear hrt hgt;go_wp2;go_ret;refine⟨bF (by rw[HZ.o]),by rw[HZ.o];exact HF.o.1,⟨_,_,_,KP.o,fun hh=>?_⟩,HF.o.2⟩;rw[HZ.o]at hh;exact absurd hh (by show ¬(2:Int)=0;decide)
   | true =>
    have hc':=of_decide_eq_true hc;have HRk:Hd (R=if(rdNum l (j+1)).1=0 then uj l (rdNum l (j+1)).2.2 x1 (rdNum l (j+1)).2.1 else((rdNum l (j+1)).1,(rdNum l (j+1)).2.2,0,0,0)):=by show R=_;rw[qg.o];unfold xK;rw[if_pos hc']
    have CT:=ae (TY.o j wr hc' aA.o);have iG:Hd (j+1<=s.size):=by have:=(List.getElem?_eq_some_iff.1 hc').1;rw[bM.o]at this;exact this
    clear hc hc';go_wp2_with (go_at_call 148;refine CT.o.mono ?_);rintro e wt ⟨rfl,hrt,hgt⟩;have ED:=ae hrt;have EF:=ae (Bg.o.grow hgt (Ne.symm fV.o));have lN:=ae (HG.o.step hgt);clear hrt hgt;have lQ:=ae (CN.o (j+1) wt iG.o ED.o);have lS:=ae (oP.o (j+1) iG.o);obtain⟨E,hE⟩:=zN ((rdNum l (j+1)).1);obtain⟨V,hV⟩:=zN ((rdNum l (j+1)).2.1);obtain⟨Q,hQ⟩:=zN ((rdNum l (j+1)).2.2);rw[hE,hV,hQ]at lQ;rw[hQ]at lS;rw[hE,hV,hQ]at HRk;clear hE hV hQ;go_wp2_with (go_at_call 151;refine lQ.o.mono ?_);rintro e wq ⟨rfl,hrq,hgq⟩;have oQ:=ae (EF.o.grow hgq (Ne.symm fV.o));have xM:=ae (lN.o.step hgq);have xN:=ae hrq;clear hrq hgq;have cc:=oQ.o.cell.2.1;have ff:=oQ.o.f 1
    cases hz:(E == 0) with
    | false =>
     have HZ:Hd (R=(E,Q,0,0,0)):=by show R=_;rw[HRk.o,if_neg (by simpa using hz)]
     go_wp2;go_ret;refine⟨bF (by rw[HZ.o]),by rw[HZ.o];exact xN.o.other fV.o _ _,⟨_,_,_,oQ.o.set1 _,fun hh=>?_⟩,xM.o.set _ _⟩;rw[HZ.o]at hh;exact absurd hh (by simpa using hz)
    | true =>
     have HZ:Hd (R=uj l Q x1 V):=by show R=_;rw[HRk.o,if_pos (by simpa using hz)]
     go_wp2;go_roundw
     case rel=>exact⟨2,Q,x1,V,x3,rfl,lS.o,xN.o.other fV.o _ _,oQ.o.set1 _,xM.o.set _ _,Or.inr (Or.inr (Or.inl ⟨rfl,HZ.o⟩))⟩
     case measure=>simp[intOf]
  ·have ix:=ip2 v wr;have qg:=ae hrk;clear hrk
   cases hc:decide (l[j]?=some 46) with
   | false =>
    have hc':=of_decide_eq_false hc;have HZ:Hd (R=(2,j,0,0,0)):=by show R=_;rw[qg.o];unfold uj;rw[if_neg hc']
    have CT:=ae (TN.o j wr HJ.o hc' aA.o);clear hc hc';go_wp2_with (go_at_call 148;refine CT.o.mono ?_);rintro e wt ⟨rfl,hrt,hgt⟩;have HF:Hd (RS b s j wt/\G2 b v w wt):=⟨hrt,HG.o.step hgt⟩;have KP:=ae (Bg.o.grow hgt (Ne.symm fV.o));clear hrt hgt;go_wp2;go_ret;refine⟨bF (by rw[HZ.o]),by rw[HZ.o];exact HF.o.1,⟨_,_,_,KP.o,fun hh=>?_⟩,HF.o.2⟩;rw[HZ.o]at hh;exact absurd hh (by show ¬(2:Int)=0;decide)
   | true =>
    have hc':=of_decide_eq_true hc;have HRk:Hd (R=if(rdNum l (j+1)).1=0 then yZ l (rdNum l (j+1)).2.2 x1 x2 (rdNum l (j+1)).2.1 else((rdNum l (j+1)).1,(rdNum l (j+1)).2.2,0,0,0)):=by show R=_;rw[qg.o];unfold uj;rw[if_pos hc']
    have CT:=ae (TY.o j wr hc' aA.o);have iG:Hd (j+1<=s.size):=by have:=(List.getElem?_eq_some_iff.1 hc').1;rw[bM.o]at this;exact this
    clear hc hc';go_wp2_with (go_at_call 148;refine CT.o.mono ?_);rintro e wt ⟨rfl,hrt,hgt⟩;have ED:=ae hrt;have EF:=ae (Bg.o.grow hgt (Ne.symm fV.o));have lN:=ae (HG.o.step hgt);clear hrt hgt;have lQ:=ae (CN.o (j+1) wt iG.o ED.o);have lS:=ae (oP.o (j+1) iG.o);obtain⟨E,hE⟩:=zN ((rdNum l (j+1)).1);obtain⟨V,hV⟩:=zN ((rdNum l (j+1)).2.1);obtain⟨Q,hQ⟩:=zN ((rdNum l (j+1)).2.2);rw[hE,hV,hQ]at lQ;rw[hQ]at lS;rw[hE,hV,hQ]at HRk;clear hE hV hQ;go_wp2_with (go_at_call 151;refine lQ.o.mono ?_);rintro e wq ⟨rfl,hrq,hgq⟩;have oQ:=ae (EF.o.grow hgq (Ne.symm fV.o));have xM:=ae (lN.o.step hgq);have xN:=ae hrq;clear hrq hgq;have cc:=oQ.o.cell.2.2;have ff:=oQ.o.f 2
    cases hz:(E == 0) with
    | false =>
     have HZ:Hd (R=(E,Q,0,0,0)):=by show R=_;rw[HRk.o,if_neg (by simpa using hz)]
     go_wp2;go_ret;refine⟨bF (by rw[HZ.o]),by rw[HZ.o];exact xN.o.other fV.o _ _,⟨_,_,_,oQ.o.set2 _,fun hh=>?_⟩,xM.o.set _ _⟩;rw[HZ.o]at hh;exact absurd hh (by simpa using hz)
    | true =>
     have HZ:Hd (R=yZ l Q x1 x2 V):=by show R=_;rw[HRk.o,if_pos (by simpa using hz)]
     go_wp2;go_roundw
     case rel=>exact⟨3,Q,x1,x2,V,rfl,lS.o,xN.o.other fV.o _ _,oQ.o.set2 _,xM.o.set _ _,Or.inr (Or.inr (Or.inr ⟨rfl,HZ.o⟩))⟩
     case measure=>simp[intOf]
  ·have HZ:Hd (R=(0,j,x1,x2,x3)):=hrk;clear hrk;go_wp2;go_ret;refine⟨bF (by rw[HZ.o]),by rw[HZ.o];exact aA.o,⟨_,_,_,Bg.o,fun _=>by rw[HZ.o]⟩,HG.o⟩
open Go.RowKit Go.Shelf
def gU(st:Bool)(l:List UInt8)(i:Nat):List UInt8:=if(aQ st l i).1=0 then aO l i ((aQ st l i).2-i) else[]
theorem abZ(b:Nat)(s:ByteArray)(i:Nat)(w:World)(hi:i<=s.size)(h:RS b s i w)(hs:s.size<=281474976710656) :
  Calls prog 152 #[.pointer (some ⟨b,0,none⟩),.int .i64 0] w fun e w'=>e=.returned (.tuple #[.string ⟨(gU true s.data.toList i).toArray⟩,.int .i64 (aQ true s.data.toList i).1])/\RS b s (aQ true s.data.toList i).2 w'/\w.grownBy w' (some b):=by
 have hsl:s.data.toList.length=s.size:=by simp
 have CS:=ae (Rw b s i w hi h (by omega));have d1:=h.c1;have hpt:=AA true s.data.toList _ i rfl (by rw[hsl];exact hi);obtain⟨P,hP⟩:∃P,P=gU true s.data.toList i:=⟨_,rfl⟩;unfold gU at hP;have hP0:gU true s.data.toList i=P:=hP.symm;rw[hP0];obtain⟨E,Q,iK⟩:∃E Q,aQ true s.data.toList i=(E,Q):=⟨_,_,rfl⟩;rw[iK]at CS hpt hP;rw[iK];simp only at hpt hP;have HP:=ae hP;have EG:Hd (E=0->i<Q/\Q<=s.size):=fun h=>by have:=hpt h;rw[hsl]at this;exact⟨this.1,this.2.1⟩
 have HS:Hd (s.size<=281474976710656/\s.data.toList.length=s.size):=⟨hs,hsl⟩;clear hP0 iK hpt hP hi h hs hsl
 cases hz:(E == 0) with
 | false =>
  have HZ:Hd (P=[]):=by show P=[];rw[HP.o,if_neg (by simpa using hz)]
  go_enter func152,ntmps152;go_wp2_with (go_at_call 181;refine CS.o.mono ?_);rintro e w1 rfl hr1 hg1;have HF:Hd (RS b s Q w1/\w.grownBy w1 (some b)):=⟨hr1,hg1⟩;clear hr1 hg1;go_wp2;refine bodyPost_ret (results_tmp2 rfl _ _ _) rfl ⟨?_,HF.o.1,HF.o.2⟩;rw[HZ.o];rfl
 | true =>
  have hE:E=0:=by simpa using hz
  have hq:=EG.o hE;obtain⟨X,hX⟩:∃X:ByteArray,X=⟨P.toArray⟩:=⟨_,rfl⟩;have qh:P=aO s.data.toList i (Q-i):=by rw[HP.o,if_pos hE]
  have sl:∀wx,(Instr.slice 9 (.string s) (some (.int .i64 (i:Int))) (some (.int .i64 (Q:Int))) none).run prog wx=.ok (.string X) wx:=fun wx=>by rw[hX,qh];exact tV s i Q (by omega) hq.2 wx
  have CC:Hd (∀w,Calls prog 182 #[.string X] w fun e w'=>e=.returned (.string X)/\w.grownBy w' none):=fun w=>clone_any X w (by
   rw[hX];show P.toArray.size<=_;have:=pV s.data.toList i (Q-i) (by have:=HS.o.2;omega);rw[<-qh]at this;have h2:=HS.o.1;simp;omega)
  have HX:=ae hX;subst hE;clear hX qh hq hz EG;go_enter func152,ntmps152;go_wp2_with (go_at_call 181;refine CS.o.mono ?_);rintro e w1 rfl hr1 hg1;have HR1:=ae hr1;have bg:=ae hg1;have f0:=hr1.c0;have f1:=hr1.c1;clear hr1 hg1;go_wp2
  go_region_held3 (fun w'=>w'.cell? ⟨b,0,none⟩=some (.string s)/\w'.cell? ⟨b,1,none⟩=some (.int .i64 (Q:Int))) ((first|go_keep|(refine⟨?_,?_⟩<;>(refine World.grownBy.cell (by assumption) ?_ (by simp);assumption)))) (first|(go_at_call 182;refine(CC.o _).mono ?_;rintro e w2 ⟨rfl,hg2⟩))
  have HF:Hd (RS b s Q w2/\w.grownBy w2 (some b)):=⟨HR1.o.grow (dF hg2),ag bg.o (dA (dF hg2) _)⟩;clear hg2;go_wp2;refine bodyPost_ret (results_tmp2 rfl _ _ _) rfl ⟨?_,HF.o.1,HF.o.2⟩;rw[<-HX.o];rfl
theorem ab1(b:Nat)(s:ByteArray)(i:Nat)(w:World)(hi:i<=s.size)(h:RS b s i w)(hs:s.size<=281474976710656) :
  Calls prog 152 #[.pointer (some ⟨b,0,none⟩),.int .i64 1] w fun e w'=>e=.returned (.tuple #[.string ⟨(gU false s.data.toList i).toArray⟩,.int .i64 (aQ false s.data.toList i).1])/\RS b s (aQ false s.data.toList i).2 w'/\w.grownBy w' (some b):=by
 have hsl:s.data.toList.length=s.size:=by simp
 have CS:=ae (Ry b s i w hi h (by omega));have d1:=h.c1;have hpt:=AA false s.data.toList _ i rfl (by rw[hsl];exact hi);obtain⟨P,hP⟩:∃P,P=gU false s.data.toList i:=⟨_,rfl⟩;unfold gU at hP;have hP0:gU false s.data.toList i=P:=hP.symm;rw[hP0];obtain⟨E,Q,iK⟩:∃E Q,aQ false s.data.toList i=(E,Q):=⟨_,_,rfl⟩;rw[iK]at CS hpt hP;rw[iK];simp only at hpt hP;have HP:=ae hP;have EG:Hd (E=0->i<Q/\Q<=s.size):=fun h=>by have:=hpt h;rw[hsl]at this;exact⟨this.1,this.2.1⟩
 have HS:Hd (s.size<=281474976710656/\s.data.toList.length=s.size):=⟨hs,hsl⟩;clear hP0 iK hpt hP hi h hs hsl
 cases hz:(E == 0) with
 | false =>
  have HZ:Hd (P=[]):=by show P=[];rw[HP.o,if_neg (by simpa using hz)]
  go_enter func152,ntmps152;go_wp2_with (go_at_call 181;refine CS.o.mono ?_);rintro e w1 rfl hr1 hg1;have HF:Hd (RS b s Q w1/\w.grownBy w1 (some b)):=⟨hr1,hg1⟩;clear hr1 hg1;go_wp2;refine bodyPost_ret (results_tmp2 rfl _ _ _) rfl ⟨?_,HF.o.1,HF.o.2⟩;rw[HZ.o];rfl
 | true =>
  have hE:E=0:=by simpa using hz
  have hq:=EG.o hE;obtain⟨X,hX⟩:∃X:ByteArray,X=⟨P.toArray⟩:=⟨_,rfl⟩;have qh:P=aO s.data.toList i (Q-i):=by rw[HP.o,if_pos hE]
  have sl:∀wx,(Instr.slice 9 (.string s) (some (.int .i64 (i:Int))) (some (.int .i64 (Q:Int))) none).run prog wx=.ok (.string X) wx:=fun wx=>by rw[hX,qh];exact tV s i Q (by omega) hq.2 wx
  have CC:Hd (∀w,Calls prog 182 #[.string X] w fun e w'=>e=.returned (.string X)/\w.grownBy w' none):=fun w=>clone_any X w (by
   rw[hX];show P.toArray.size<=_;have:=pV s.data.toList i (Q-i) (by have:=HS.o.2;omega);rw[<-qh]at this;have h2:=HS.o.1;simp;omega)
  have HX:=ae hX;subst hE;clear hX qh hq hz EG;go_enter func152,ntmps152;go_wp2_with (go_at_call 181;refine CS.o.mono ?_);rintro e w1 rfl hr1 hg1;have HR1:=ae hr1;have bg:=ae hg1;have f0:=hr1.c0;have f1:=hr1.c1;clear hr1 hg1;go_wp2
  go_region_held3 (fun w'=>w'.cell? ⟨b,0,none⟩=some (.string s)/\w'.cell? ⟨b,1,none⟩=some (.int .i64 (Q:Int))) ((first|go_keep|(refine⟨?_,?_⟩<;>(refine World.grownBy.cell (by assumption) ?_ (by simp);assumption)))) (first|(go_at_call 182;refine(CC.o _).mono ?_;rintro e w2 ⟨rfl,hg2⟩))
  have HF:Hd (RS b s Q w2/\w.grownBy w2 (some b)):=⟨HR1.o.grow (dF hg2),ag bg.o (dA (dF hg2) _)⟩;clear hg2;go_wp2;refine bodyPost_ret (results_tmp2 rfl _ _ _) rfl ⟨?_,HF.o.1,HF.o.2⟩;rw[<-HX.o];rfl
open Go.RowKit
def aN(l:List UInt8)(i:Nat):Int × Nat × List UInt8 × List UInt8 :=
 if(aX 45 true l i).1=0 then
  (if(aX 43 false l (aX 45 true l i).2.1).1=0 then(0,(aX 43 false l (aX 45 true l i).2.1).2.1,(aX 45 true l i).2.2,(aX 43 false l (aX 45 true l i).2.1).2.2)
  else((aX 43 false l (aX 45 true l i).2.1).1,(aX 43 false l (aX 45 true l i).2.1).2.1,[],[]))
 else((aX 45 true l i).1,(aX 45 true l i).2.1,[],[])
theorem rO{c:UInt8}{st:Bool}{l:List UInt8}{i:Nat}(h:l[i]?=some c):aX c st l i=((aQ st l (i+1)).1,(aQ st l (i+1)).2,gU st l (i+1)):=by
 unfold aX gU;rw[if_pos h]
 by_cases h0:(aQ st l (i+1)).1=0
 ·rw[if_pos h0,if_pos h0,h0]
 ·rw[if_neg h0,if_neg h0]
theorem oU{c:UInt8}{st:Bool}{l:List UInt8}{i:Nat}(h:¬l[i]?=some c):aX c st l i=(0,i,[]):=by unfold aX;rw[if_neg h]
theorem Td{st:Bool}{l:List UInt8}{i:Nat}(hi:i<=l.length)(h:(aQ st l i).1=0):(aQ st l i).2<=l.length:=(AA st l _ i rfl hi h).2.1
theorem KQ{c:UInt8}{st:Bool}{l:List UInt8}{i:Nat}(hi:i<=l.length)(h:(aX c st l i).1=0):(aX c st l i).2.1<=l.length:=by
 by_cases hc:l[i]?=some c
 ·rw[rO hc]at h ⊢;exact Td (by have:=(List.getElem?_eq_some_iff.1 hc).1;omega) h
 ·rw[oU hc];exact hi
theorem Tf(b:Nat)(s:ByteArray)(i:Nat)(w:World)(hi:i<=s.size)(h:RS b s i w)(hs:s.size<=281474976710656) :
  Calls prog 131 #[.pointer (some ⟨b,0,none⟩)] w fun e w'=>e=.returned (.tuple #[.string ⟨(aN s.data.toList i).2.2.1.toArray⟩,.string ⟨(aN s.data.toList i).2.2.2.toArray⟩,.int .i64 (aN s.data.toList i).1])/\RS b s (aN s.data.toList i).2.1 w'/\w.grownBy w' (some b):=by
 have bM:Hd (s.data.toList.length=s.size):=by show s.data.toList.length=s.size;simp
 have TY:=ae (fun(c:UInt8) i w (hc:s.data.toList[i]?=some c) (h:RS b s i w)=>ug b s i c w hc h (by omega));have TN:Hd (∀(c:UInt8) i w,i<=s.size->¬s.data.toList[i]?=some c->RS b s i w->Calls prog 148 #[.pointer (some ⟨b,0,none⟩),.string ⟨#[c]⟩] w fun e w'=>e=.returned (.bool false)/\RS b s i w'/\w.grownBy w' (some b)):=fun c i w hi hc h=>pX b s i c w hi hc h (by omega)
 have PP:=ae (fun i w (hi:i<=s.size) (h:RS b s i w)=>abZ b s i w hi h (by omega));have PB:=ae (fun i w (hi:i<=s.size) (h:RS b s i w)=>ab1 b s i w hi h (by omega));have HI:=ae h;have mV:=ae hi;obtain⟨E,J,P,B,hT⟩:∃E J P B,aN s.data.toList i=(E,J,P,B):=⟨_,_,_,_,rfl⟩;rw[hT];have HT:=ae hT;clear hT h hi hs
 cases hc1:decide (s.data.toList[i]?=some 45) with
 | false =>
  have hc':=of_decide_eq_false hc1;have dB:Hd (aX 45 true s.data.toList (i)=(0,i,[])):=oU hc';have CT:=ae (TN.o 45 (i) w mV.o hc' HI.o);have HJ:=ae mV.o;clear hc1 hc';go_enter func131,ntmps131;go_wp2_with (go_at_call 148;refine CT.o.mono ?_);rintro e u1 ⟨rfl,hr,hg⟩;have HR1:=ae hr;have bg:=ae hg;clear hr hg
  cases hc2:decide (s.data.toList[i]?=some 43) with
  | false =>
   have hc':=of_decide_eq_false hc2;have cZ:Hd (aX 43 false s.data.toList (i)=(0,i,[])):=oU hc';have CT:=ae (TN.o 43 (i) u1 HJ.o hc' HR1.o);clear hc2 hc';go_wp2_with (go_at_call 148;refine CT.o.mono ?_);rintro e v1 ⟨rfl,hr,hg⟩;have HF:Hd (RS b s (i) v1/\w.grownBy v1 (some b)):=⟨hr,ag bg.o hg⟩;clear hr hg;have HV:Hd (E=0/\J=i/\P=[]/\B=[]):=by
    have e:=HT.o;unfold aN at e;rw[dB.o]at e;simp only[if_true]at e;rw[cZ.o]at e;simp only[if_true]at e;exact⟨(congrArg Prod.fst e).symm,(congrArg (·.2.1) e).symm,(congrArg (·.2.2.1) e).symm,(congrArg (·.2.2.2) e).symm⟩
   go_wp2;refine bodyPost_ret (results_tmp3 rfl _ _ _) rfl ⟨?_,by rw[HV.o.2.1];exact HF.o.1,HF.o.2⟩;rw[HV.o.1,HV.o.2.2.1,HV.o.2.2.2];rfl
  | true =>
   have hc':=of_decide_eq_true hc2;have hO2:aX 43 false s.data.toList (i)=((aQ false s.data.toList (i+1)).1,(aQ false s.data.toList (i+1)).2,gU false s.data.toList (i+1)):=rO hc';have CT:=ae (TY.o 43 (i) u1 hc' HR1.o);have HJ2:Hd (i+1<=s.size):=by have:=(List.getElem?_eq_some_iff.1 hc').1;rw[bM.o]at this;exact this
   have CB:=ae (fun w (h:RS b s (i+1) w)=>PB.o (i+1) w HJ2.o h);obtain⟨E2,J2,hE2⟩:∃E J,aQ false s.data.toList (i+1)=(E,J):=⟨_,_,rfl⟩;obtain⟨P2,hP2⟩:=zN (gU false s.data.toList (i+1));have qh:¬E2=0->P2=[]:=fun h=>by rw[<-hP2];unfold gU;rw[hE2,if_neg h]
   rw[hE2,hP2]at CB hO2;simp only at CB hO2;have cZ:=ae hO2;have HPe:=ae qh;clear hc2 hc' hE2 hP2 hO2 qh;go_wp2_with (go_at_call 148;refine CT.o.mono ?_);rintro e v1 ⟨rfl,hr,hg⟩;have KR:=ae hr;have KT:=ae (ag bg.o hg);clear hr hg;have KU:=ae (CB.o v1 KR.o);go_wp2_with (go_at_call 152;refine KU.o.mono ?_);rintro e v2 ⟨rfl,hr,hg⟩;have HF:Hd (RS b s J2 v2/\w.grownBy v2 (some b)):=⟨hr,ag KT.o hg⟩;clear hr hg
   cases hz2:(E2 == 0) with
   | false =>
    have h0:¬E2=0:=by simpa using hz2
    have HV:Hd (E=E2/\J=J2/\P=[]/\B=[]):=by
     have e:=HT.o;unfold aN at e;rw[dB.o]at e;simp only[if_true]at e;rw[cZ.o]at e;simp only[if_neg h0]at e;exact⟨(congrArg Prod.fst e).symm,(congrArg (·.2.1) e).symm,(congrArg (·.2.2.1) e).symm,(congrArg (·.2.2.2) e).symm⟩
    clear h0;go_wp2;refine bodyPost_ret (results_tmp3 rfl _ _ _) rfl ⟨?_,by rw[HV.o.2.1];exact HF.o.1,HF.o.2⟩;rw[HV.o.1,HV.o.2.2.1,HV.o.2.2.2];rfl
   | true =>
    have h0:E2=0:=by simpa using hz2
    subst h0;have HV:Hd (E=0/\J=J2/\P=[]/\B=P2):=by
     have e:=HT.o;unfold aN at e;rw[dB.o]at e;simp only[if_true]at e;rw[cZ.o]at e;simp only[if_true]at e;exact⟨(congrArg Prod.fst e).symm,(congrArg (·.2.1) e).symm,(congrArg (·.2.2.1) e).symm,(congrArg (·.2.2.2) e).symm⟩
    go_wp2;refine bodyPost_ret (results_tmp3 rfl _ _ _) rfl ⟨?_,by rw[HV.o.2.1];exact HF.o.1,HF.o.2⟩;rw[HV.o.1,HV.o.2.2.1,HV.o.2.2.2];rfl
 | true =>
  have hc':=of_decide_eq_true hc1;have y9:aX 45 true s.data.toList (i)=((aQ true s.data.toList (i+1)).1,(aQ true s.data.toList (i+1)).2,gU true s.data.toList (i+1)):=rO hc';have CT:=ae (TY.o 45 (i) w hc' HI.o);have rP:Hd (i+1<=s.size):=by have:=(List.getElem?_eq_some_iff.1 hc').1;rw[bM.o]at this;exact this
  have CA:=ae (fun w (h:RS b s (i+1) w)=>PP.o (i+1) w rP.o h);have nY:Hd ((aQ true s.data.toList (i+1)).1=0->(aQ true s.data.toList (i+1)).2<=s.size):=fun h=>by have:=Td (st:=true) (l:=s.data.toList) (i:=i+1) (by rw[bM.o];exact rP.o) h;rw[bM.o]at this;exact this
  obtain⟨E1,J1,hE1⟩:∃E J,aQ true s.data.toList (i+1)=(E,J):=⟨_,_,rfl⟩;obtain⟨P1,hP1⟩:=zN (gU true s.data.toList (i+1));rw[hE1,hP1]at CA y9;rw[hE1]at nY;simp only at CA y9 nY;have dB:=ae y9;clear hc1 hc' hE1 hP1 y9;go_enter func131,ntmps131;go_wp2_with (go_at_call 148;refine CT.o.mono ?_);rintro e u1 ⟨rfl,hr,hg⟩;have KW:=ae hr;have KX:=ae hg;clear hr hg;have CAu:=ae (CA.o u1 KW.o);go_wp2_with (go_at_call 152;refine CAu.o.mono ?_);rintro e u2 ⟨rfl,hr,hg⟩;have HR1:=ae hr;have bg:=ae (ag KX.o hg);clear hr hg
  cases hz1:(E1 == 0) with
  | false =>
   have h0:¬E1=0:=by simpa using hz1
   have HV:Hd (E=E1/\J=J1/\P=[]/\B=[]):=by
    have e:=HT.o;unfold aN at e;rw[dB.o]at e;simp only[if_neg h0]at e;exact⟨(congrArg Prod.fst e).symm,(congrArg (·.2.1) e).symm,(congrArg (·.2.2.1) e).symm,(congrArg (·.2.2.2) e).symm⟩
   clear h0;go_wp2;refine bodyPost_ret (results_tmp3 rfl _ _ _) rfl ⟨?_,by rw[HV.o.2.1];exact HR1.o,bg.o⟩;rw[HV.o.1,HV.o.2.2.1,HV.o.2.2.2];rfl
  | true =>
   have h0:E1=0:=by simpa using hz1
   subst h0;have HJ:=ae (nY.o rfl);clear hz1
   cases hc2:decide (s.data.toList[J1]?=some 43) with
   | false =>
    have hc':=of_decide_eq_false hc2;have cZ:Hd (aX 43 false s.data.toList (J1)=(0,J1,[])):=oU hc';have CT:=ae (TN.o 43 (J1) u2 HJ.o hc' HR1.o);clear hc2 hc';go_wp2_with (go_at_call 148;refine CT.o.mono ?_);rintro e v1 ⟨rfl,hr,hg⟩;have HF:Hd (RS b s (J1) v1/\w.grownBy v1 (some b)):=⟨hr,ag bg.o hg⟩;clear hr hg;have HV:Hd (E=0/\J=J1/\P=P1/\B=[]):=by
     have e:=HT.o;unfold aN at e;rw[dB.o]at e;simp only[if_true]at e;rw[cZ.o]at e;simp only[if_true]at e;exact⟨(congrArg Prod.fst e).symm,(congrArg (·.2.1) e).symm,(congrArg (·.2.2.1) e).symm,(congrArg (·.2.2.2) e).symm⟩
    go_wp2;refine bodyPost_ret (results_tmp3 rfl _ _ _) rfl ⟨?_,by rw[HV.o.2.1];exact HF.o.1,HF.o.2⟩;rw[HV.o.1,HV.o.2.2.1,HV.o.2.2.2];rfl
   | true =>
    have hc':=of_decide_eq_true hc2;have hO2:aX 43 false s.data.toList (J1)=((aQ false s.data.toList (J1+1)).1,(aQ false s.data.toList (J1+1)).2,gU false s.data.toList (J1+1)):=rO hc';have CT:=ae (TY.o 43 (J1) u2 hc' HR1.o);have HJ2:Hd (J1+1<=s.size):=by have:=(List.getElem?_eq_some_iff.1 hc').1;rw[bM.o]at this;exact this
    have CB:=ae (fun w (h:RS b s (J1+1) w)=>PB.o (J1+1) w HJ2.o h);obtain⟨E2,J2,hE2⟩:∃E J,aQ false s.data.toList (J1+1)=(E,J):=⟨_,_,rfl⟩;obtain⟨P2,hP2⟩:=zN (gU false s.data.toList (J1+1));have qh:¬E2=0->P2=[]:=fun h=>by rw[<-hP2];unfold gU;rw[hE2,if_neg h]
    rw[hE2,hP2]at CB hO2;simp only at CB hO2;have cZ:=ae hO2;have HPe:=ae qh;clear hc2 hc' hE2 hP2 hO2 qh;go_wp2_with (go_at_call 148;refine CT.o.mono ?_);rintro e v1 ⟨rfl,hr,hg⟩;have KR:=ae hr;have KT:=ae (ag bg.o hg);clear hr hg;have KU:=ae (CB.o v1 KR.o);go_wp2_with (go_at_call 152;refine KU.o.mono ?_);rintro e v2 ⟨rfl,hr,hg⟩;have HF:Hd (RS b s J2 v2/\w.grownBy v2 (some b)):=⟨hr,ag KT.o hg⟩;clear hr hg
    cases hz2:(E2 == 0) with
    | false =>
     have h0:¬E2=0:=by simpa using hz2
     have HV:Hd (E=E2/\J=J2/\P=[]/\B=[]):=by
      have e:=HT.o;unfold aN at e;rw[dB.o]at e;simp only[if_true]at e;rw[cZ.o]at e;simp only[if_neg h0]at e;exact⟨(congrArg Prod.fst e).symm,(congrArg (·.2.1) e).symm,(congrArg (·.2.2.1) e).symm,(congrArg (·.2.2.2) e).symm⟩
     clear h0;go_wp2;refine bodyPost_ret (results_tmp3 rfl _ _ _) rfl ⟨?_,by rw[HV.o.2.1];exact HF.o.1,HF.o.2⟩;rw[HV.o.1,HV.o.2.2.1,HV.o.2.2.2];rfl
    | true =>
     have h0:E2=0:=by simpa using hz2
     subst h0;have HV:Hd (E=0/\J=J2/\P=P1/\B=P2):=by
      have e:=HT.o;unfold aN at e;rw[dB.o]at e;simp only[if_true]at e;rw[cZ.o]at e;simp only[if_true]at e;exact⟨(congrArg Prod.fst e).symm,(congrArg (·.2.1) e).symm,(congrArg (·.2.2.1) e).symm,(congrArg (·.2.2.2) e).symm⟩
     go_wp2;refine bodyPost_ret (results_tmp3 rfl _ _ _) rfl ⟨?_,by rw[HV.o.2.1];exact HF.o.1,HF.o.2⟩;rw[HV.o.1,HV.o.2.2.1,HV.o.2.2.2];rfl
open Go.RowKit
def Ti(b:Nat)(s:ByteArray)(w:World)(e:Ending)(w':World):Prop :=
 ∃(x1 x2 x3:Int) (x4 x5:List UInt8) (E:Int) (j:Nat),e=.returned (.tuple #[.agg #[.int .i64 x1,.int .i64 x2,.int .i64 x3,.string ⟨x4.toArray⟩,.string ⟨x5.toArray⟩],.int .i64 E]) ∧
  RS b s j w'/\w.grownBy w' (some b)/\E=(dK s.data.toList).1/\(E=0->(dK s.data.toList).2.2=⟨x1,x2,x3,x4,x5⟩)/\(E≠0->(dK s.data.toList).2.1=j)
theorem ab2{b:Nat}{s:ByteArray}{i:Nat}{w:World}(h:RS b s i w)(o1 o2:Obj):RS b s i ((w.alloc o1).alloc o2):=h.grow (ak (ak (ai w none) o1) o2)
theorem Hu(w:World)(o1 o2:Obj):((w.alloc o1).alloc o2).heap[w.heap.size+1]?=some o2:=by
 have:=heap_alloc_new (w.alloc o1) o2;simpa using this
theorem ab3{b A:Nat}{s:ByteArray}{j:Nat}{w:World}(h:RS b s j w)(hn:b≠A)(y1 y2 y3:Int)(x4 x5:ByteArray):RS b s j (vC w A y1 y2 y3 x4 x5):=((((h.other hn _ _).other hn _ _).other hn _ _).other hn _ _).other hn _ _
theorem Tj(l:List UInt8):dK l=if(bT l).1=0 then(if(aN l (bT l).2.1).1=0 then(if(aN l (bT l).2.1).2.1<l.length then(2,(aN l (bT l).2.1).2.1,zeroV) else(0,0,⟨(bT l).2.2.1,(bT l).2.2.2.1,(bT l).2.2.2.2,(aN l (bT l).2.1).2.2.1,(aN l (bT l).2.1).2.2.2⟩)) else((aN l (bT l).2.1).1,(aN l (bT l).2.1).2.1,zeroV)) else((bT l).1,(bT l).2.1,zeroV):=by
 unfold dK aN
 by_cases h1:(bT l).1=0
 ·rw[if_pos h1,if_pos h1]
  by_cases h2:(aX 45 true l (bT l).2.1).1=0
  ·simp only[if_pos h2]
   by_cases h3:(aX 43 false l (aX 45 true l (bT l).2.1).2.1).1=0
   ·simp only[if_pos h3,if_true]
   ·simp only[if_neg h3]
  ·simp only[if_neg h2]
 ·rw[if_neg h1,if_neg h1]
theorem ab4(b:Nat)(s:ByteArray)(w:World)(h:RS b s 0 w)(hs:s.size<=100) :
  Calls prog 116 #[.pointer (some ⟨b,0,none⟩)] w (Ti b s w):=by
 have HB:Hd (b<w.heap.size):=by obtain⟨t,h⟩:=h;exact(aC h)
 have HI:=ae h;have CN:=ae (fun v w (h1:RS b s 0 w) (h2:VB v 0 0 0 w) (h3:b≠v)=>abY b v s w h1 h2 h3 (by omega));have Hw:=ae (fun i w (hi:i<=s.size) (h:RS b s i w)=>Tf b s i w hi h (by omega));have bM:Hd (s.data.toList.length=s.size):=by show s.data.toList.length=s.size;simp
 clear h hs;have oV:=Tj s.data.toList;obtain⟨E0,J0,X1,X2,X3,hN⟩:∃E J A B C,bT s.data.toList=(E,J,A,B,C):=⟨_,_,_,_,_,rfl⟩;obtain⟨E1,J1,P1,B1,hT⟩:∃E J P B,aN s.data.toList J0=(E,J,P,B):=⟨_,_,_,_,rfl⟩;rw[hN]at CN oV;simp only at CN oV;rw[hT]at oV;simp only at oV;have iH:Hd (E0=0->J0<=s.size):=fun h0=>by
  have:=(QV s.data.toList (by rw[hN];exact h0)).1;rw[hN,bM.o]at this;exact this
 have rP:Hd (J0<=s.size->E1=0->J1<=s.size):=fun hj h0=>by
  rw[<-bM.o]at hj ⊢;unfold aN at hT
  by_cases h2:(aX 45 true s.data.toList J0).1=0
  ·have l1:=KQ hj h2;rw[if_pos h2]at hT
   by_cases h3:(aX 43 false s.data.toList (aX 45 true s.data.toList J0).2.1).1=0
   ·rw[if_pos h3]at hT;have l2:=KQ l1 h3;have e:=congrArg (·.2.1) hT;simp only at e;rw[<-e];exact l2
   ·rw[if_neg h3]at hT;exact absurd ((congrArg Prod.fst hT).trans h0) h3
  ·rw[if_neg h2]at hT;exact absurd ((congrArg Prod.fst hT).trans h0) h2
 have CT0:Hd (∀w,J0<=s.size->RS b s J0 w->Calls prog 131 #[.pointer (some ⟨b,0,none⟩)] w fun e w'=>e=.returned (.tuple #[.string ⟨P1.toArray⟩,.string ⟨B1.toArray⟩,.int .i64 E1])/\RS b s J1 w'/\w.grownBy w' (some b)):=fun w hj h=>by
  have:=Hw.o J0 w hj h;rw[hT]at this;exact this
 have HV:=ae oV;clear hN hT oV Hw;go_enter func116,ntmps116;go_wp2_with (go_at_call 130;refine(CN.o _ _ (ab2 HI.o _ _) (Hu w _ _) (by have:=HB.o;omega)).mono ?_);rintro e w1 ⟨rfl,hr1,⟨y1,y2,y3,hvb,hy⟩,hg1⟩;obtain⟨A,hA⟩:=zN (w.heap.size);have jU:Hd (VX A 0 0 0 ⟨#[]⟩ ⟨#[]⟩ w1):=by
  show w1.heap[A]?=_;rw[<-hA,hg1.block w.heap.size (by simp;omega) (by have:=HB.o;omega) (by omega),Lib.alloc_old _ _ _ (by simp)];exact heap_alloc_new w _
 have HG:Hd (w.grownBy w1 (some b)):=by
  refine⟨hg1.os,hg1.tape,hg1.output,by have:=hg1.size;simp at this;omega,fun k hk hn=>?_⟩;rw[hg1.block k (by simp;omega) (by simpa using hn) (by omega),Lib.alloc_old _ _ _ (by simp;omega),Lib.alloc_old _ _ _ hk]
 have HR1:=ae hr1;have HY:=ae hy;have HX:Hd (VX (A+1) y1 y2 y3 ⟨#[]⟩ ⟨#[]⟩ w1):=by rw[<-hA];exact hvb
 have zg:Hd (b<A):=by rw[<-hA];exact HB.o
 have oN:=ae (Nat.le_of_eq hA);rw[hA];clear hA hr1 hvb hy hg1;have END:Hd (∀(W:World) (j:Nat) (z1 z2 z3:Int) (x4 x5:List UInt8) (E:Int),RS b s j W->VX A 0 0 0 ⟨#[]⟩ ⟨#[]⟩ W->w.grownBy W (some b)->E=(dK s.data.toList).1->(E=0->(dK s.data.toList).2.2=⟨z1,z2,z3,x4,x5⟩)->(E≠0->(dK s.data.toList).2.1=j) →
   VX A z1 z2 z3 ⟨x4.toArray⟩ ⟨x5.toArray⟩ (vC W A z1 z2 z3 ⟨x4.toArray⟩ ⟨x5.toArray⟩)/\Ti b s w (.returned (.tuple #[.agg #[.int .i64 z1,.int .i64 z2,.int .i64 z3,.string ⟨x4.toArray⟩,.string ⟨x5.toArray⟩],.int .i64 E])) (vC W A z1 z2 z3 ⟨x4.toArray⟩ ⟨x5.toArray⟩)):=by
  intro W j z1 z2 z3 x4 x5 E h1 h2 h3 h4 h5 h6;exact⟨G7 h2 _ _ _ _ _,z1,z2,z3,x4,x5,E,j,rfl,ab3 h1 (by have:=zg.o;omega) _ _ _ _ _,aaq h3 oN.o _ _ _ _ _,h4,h5,h6⟩
 cases hz:(E0 == 0) with
 | false =>
  obtain⟨v0,v1,v2,v3,v4⟩:=HX.o.cells;obtain⟨ca0,ca1,ca2,ca3,ca4⟩:=jU.o.cells;have ra:=jU.o.f;have HE:Hd (E0=(dK s.data.toList).1/\(dK s.data.toList).2.1=J0/\E0≠0):=by
   have h0:¬E0=0:=by simpa using hz
   refine⟨?_,?_,h0⟩<;>(rw[HV.o,if_neg h0])
  go_wp2;obtain⟨hrow,hpost⟩:=END.o w1 J0 0 0 0 [] [] E0 HR1.o jU.o HG.o HE.o.1 (fun h=>absurd h HE.o.2.2) (fun _=>HE.o.2.1);exact bodyPost_ret (oK (p:=2) (u:=3) rfl _ _ A _ _ (0,0) _ rfl hrow underlying150 rfl (by kernel_rfl)) rfl hpost
 | true =>
  have hE:E0=0:=by simpa using hz
  subst hE;clear hz;have hj0:=iH.o rfl;have Bh:Hd (dK s.data.toList=if E1=0 then(if J1<s.data.toList.length then(2,J1,zeroV) else(0,0,⟨X1,X2,X3,P1,B1⟩)) else(E1,J1,zeroV)):=by
   show dK s.data.toList=_;rw[HV.o,if_pos rfl]
  have mW:Hd (y1=X1/\y2=X2/\y3=X3):=by
   have hy:=HY.o rfl;simp only[Prod.mk.injEq]at hy;exact hy
  clear HV HY;have CTw:=ae (CT0.o w1 hj0 HR1.o);have HJs:=ae (rP.o hj0);clear hj0;go_wp2_with (first|(go_at_call 131;refine CTw.o.mono ?_));rintro e u1 ⟨rfl,hr,hg⟩;have KW:=ae hr;have KY:=ae (HX.o.grow hg (by have:=zg.o;omega));have KZ:=ae (jU.o.grow hg (by have:=zg.o;omega));have KX:=ae (ag HG.o hg);clear hr hg;obtain⟨v0,v1,v2,v3,v4⟩:=KY.o.cells;have rv:=KY.o.f;obtain⟨ca0,ca1,ca2,ca3,ca4⟩:=KZ.o.cells;have ra:=KZ.o.f;obtain⟨U,hU⟩:=zN ((u1.setCell ⟨A+1,3,none⟩ (.string ⟨P1.toArray⟩)).setCell ⟨A+1,4,none⟩ (.string ⟨B1.toArray⟩));have Hy:Hd (RS b s J1 U):=by
   show RS b s J1 U;rw[<-hU];exact(KW.o.other (by have:=zg.o;omega) _ _).other (by have:=zg.o;omega) _ _
  have HXU:Hd (VX (A+1) y1 y2 y3 ⟨P1.toArray⟩ ⟨B1.toArray⟩ U):=by
   show VX _ _ _ _ _ _ U;rw[<-hU];exact(KY.o.set3 _).set4 _
  have La:Hd (VX A 0 0 0 ⟨#[]⟩ ⟨#[]⟩ U):=by
   show VX _ _ _ _ _ _ U;rw[<-hU];exact(KZ.o.other (by omega) _ _).other (by omega) _ _
  have Lc:Hd (w.grownBy U (some b)):=by
   show w.grownBy U (some b);have:=oN.o;rw[<-hU];exact bJ (bJ KX.o (by omega) _ _) (by omega) _ _
  have CE:Hd (Calls prog 132 #[.pointer (some ⟨b,0,none⟩)] ((u1.setCell ⟨A+1,3,none⟩ (.string ⟨P1.toArray⟩)).setCell ⟨A+1,4,none⟩ (.string ⟨B1.toArray⟩)) fun e w'=>e=.returned (.bool (decide (J1=s.size)))/\∃n,w'=U.drewN n):=by
   show Calls _ _ _ _ _;rw[hU];exact Hf b s J1 U Hy.o
  have HU:=ae hU;clear hU
  cases hz1:(E1 == 0) with
  | false =>
   have HE:Hd (E1=(dK s.data.toList).1/\(dK s.data.toList).2.1=J1/\E1≠0):=by
    have h0:¬E1=0:=by simpa using hz1
    refine⟨?_,?_,h0⟩<;>(rw[Bh.o,if_neg h0])
   go_wp2;obtain⟨hrow,hpost⟩:=END.o U J1 0 0 0 [] [] E1 Hy.o La.o Lc.o HE.o.1 (fun h=>absurd h HE.o.2.2) (fun _=>HE.o.2.1);rw[HU.o];exact bodyPost_ret (oK (p:=2) (u:=3) rfl _ _ A _ _ (0,0) _ rfl hrow underlying150 rfl (by kernel_rfl)) rfl hpost
  | true =>
   have h0:E1=0:=by simpa using hz1
   subst h0;clear hz1;have hj:=HJs.o rfl
   cases hJ:decide (J1=s.size) with
   | false =>
    rw[hJ]at CE;have HE:Hd ((2:Int)=(dK s.data.toList).1/\(dK s.data.toList).2.1=J1):=by
     have h1:J1<s.data.toList.length:=by rw[bM.o];have:=of_decide_eq_false hJ;omega
     refine⟨?_,?_⟩<;>(rw[Bh.o,if_pos rfl,if_pos h1])
    clear hj hJ;go_wp2_with (go_at_call 132;refine CE.o.mono ?_);rintro e u2 ⟨rfl,n,hn⟩;have HR2:Hd (RS b s J1 u2):=by show RS b s J1 u2;rw[hn];exact Hy.o.drew n
    have HA2:Hd (VX A 0 0 0 ⟨#[]⟩ ⟨#[]⟩ u2):=by show VX _ _ _ _ _ _ u2;rw[hn];exact La.o
    have HG2:Hd (w.grownBy u2 (some b)):=by show w.grownBy u2 (some b);rw[hn];exact aH Lc.o n
    clear hn v0 v1 v2 v3 v4 rv ca0 ca1 ca2 ca3 ca4 ra;obtain⟨ca0,ca1,ca2,ca3,ca4⟩:=HA2.o.cells;have ra:=HA2.o.f;go_wp2;obtain⟨hrow,hpost⟩:=END.o u2 J1 0 0 0 [] [] 2 HR2.o HA2.o HG2.o HE.o.1 (fun h=>absurd h (by decide)) (fun _=>HE.o.2);exact bodyPost_ret (oK (p:=2) (u:=3) rfl _ _ A _ _ (0,0) _ rfl hrow underlying150 rfl (by kernel_rfl)) rfl hpost
   | true =>
    rw[hJ]at CE;have HE:Hd ((0:Int)=(dK s.data.toList).1/\(dK s.data.toList).2.2=⟨y1,y2,y3,P1,B1⟩):=by
     have h1:¬J1<s.data.toList.length:=by rw[bM.o];have:=of_decide_eq_true hJ;omega
     obtain⟨e1,e2,e3⟩:=mW.o;refine⟨?_,?_⟩<;>(rw[Bh.o,if_pos rfl,if_neg h1])
     rw[e1,e2,e3]
    clear hj hJ;go_wp2_with (go_at_call 132;refine CE.o.mono ?_);rintro e u2 ⟨rfl,n,hn⟩;have HR2:Hd (RS b s J1 u2):=by show RS b s J1 u2;rw[hn];exact Hy.o.drew n
    have HA2:Hd (VX A 0 0 0 ⟨#[]⟩ ⟨#[]⟩ u2):=by show VX _ _ _ _ _ _ u2;rw[hn];exact La.o
    have zh:Hd (VX (A+1) y1 y2 y3 ⟨P1.toArray⟩ ⟨B1.toArray⟩ u2):=by show VX _ _ _ _ _ _ u2;rw[hn];exact HXU.o
    have HG2:Hd (w.grownBy u2 (some b)):=by show w.grownBy u2 (some b);rw[hn];exact aH Lc.o n
    clear hn v0 v1 v2 v3 v4 rv ca0 ca1 ca2 ca3 ca4 ra;obtain⟨ca0,ca1,ca2,ca3,ca4⟩:=HA2.o.cells;have ra:=HA2.o.f;obtain⟨v0,v1,v2,v3,v4⟩:=zh.o.cells;go_wp2;obtain⟨hrow,hpost⟩:=END.o u2 J1 y1 y2 y3 P1 B1 0 HR2.o HA2.o HG2.o HE.o.1 (fun _=>HE.o.2) (fun h=>absurd rfl h);exact bodyPost_ret (oK (p:=2) (u:=3) rfl _ _ A _ _ (0,0) _ rfl hrow underlying150 rfl (by kernel_rfl)) rfl hpost
open Go.RowKit
theorem ab5(l:List UInt8)(h:¬(dK l).1=0):(dK l).2.2=zeroV:=by
 unfold dK at h ⊢
 repeat' split
 all_goals first|rfl|(exfalso;simp_all)
theorem ab6(l:List UInt8)(h:(dK l).1=0):(dK l).2.1=0:=by
 unfold dK at h ⊢
 repeat' split
 all_goals first|rfl|(exfalso;simp_all)
def eY(v:Vv):Value:=.agg #[.int .i64 v.major,.int .i64 v.minor,.int .i64 v.patch,.string ⟨v.pre.toArray⟩,.string ⟨v.build.toArray⟩]
theorem parse_any(s:ByteArray)(w:World)(hs:s.size<2 ^ 62) :
  Calls prog 88 #[.string s] w fun e w'=>e=.returned (.tuple #[eY (ig s.data.toList).2.2,.int .i64 (ig s.data.toList).1,.int .i64 ((ig s.data.toList).2.1:Nat)])/\w.grownBy w' none:=by
 by_cases h100:100<s.size
 ·have hp:ig s.data.toList=(1,0,zeroV):=by unfold ig;rw[if_pos (by simpa using h100)]
  rw[hp];clear hp;go_enter func88,ntmps88;go_wp2;exact bodyPost_ret (qL (p:=2) (u:=3) (r:=4) rfl _ _ w.heap.size _ _ (0,0) _ rfl (heap_alloc_new w _) underlying150 rfl (by kernel_rfl)) rfl ⟨rfl,ak (ai w none) _⟩
 ·have hp:ig s.data.toList=dK s.data.toList:=by unfold ig;rw[if_neg (by simpa using h100)]
  rw[hp];have CV:=ae (fun b w (h:RS b s 0 w)=>ab4 b s w h (by omega));clear hp hs;go_enter func88,ntmps88;go_wp2_with (go_at_call 116;refine(CV.o _ _ ⟨_,Hu w _ _⟩).mono ?_);rintro e w1 ⟨x1,x2,x3,x4,x5,E,j,rfl,hr,hg,hE,hok,herr⟩;obtain⟨A,hA⟩:=zN (w.heap.size);have jU:Hd (VX A 0 0 0 ⟨#[]⟩ ⟨#[]⟩ w1):=by
   show w1.heap[A]?=_;rw[<-hA,hg.block w.heap.size (by simp;omega) (by simp),Lib.alloc_old _ _ _ (by simp)];exact heap_alloc_new w _
  have HG:Hd (w.grownBy w1 none):=by
   refine⟨hg.os,hg.tape,hg.output,by have:=hg.size;simp at this;omega,fun k hk _=>?_⟩;rw[hg.block k (by simp;omega) (by simp;omega),Lib.alloc_old _ _ _ (by simp;omega),Lib.alloc_old _ _ _ hk]
  have oN:=ae (Nat.le_of_eq hA);have HE:Hd (E=(dK s.data.toList).1/\(E=0->(dK s.data.toList).2.2=⟨x1,x2,x3,x4,x5⟩)/\(E≠0->(dK s.data.toList).2.1=j)):=⟨hE,hok,herr⟩;rw[hA]at hr;have HR:=ae hr;rw[hA];clear hA hr hg hE hok herr;obtain⟨ca0,ca1,ca2,ca3,ca4⟩:=jU.o.cells;have ra:=jU.o.f;have r1:=HR.o.c1;have hlt1:A+1<w1.heap.size:=by obtain⟨t,h⟩:=HR.o;exact(aC h)
  have hlt0:A<w1.heap.size:=by omega
  cases hz:(E == 0) with
  | false =>
   go_wp2;obtain⟨W,hW⟩:=zN (w1.alloc (.cells #[.int .i64 x1,.int .i64 x2,.int .i64 x3,.string ⟨x4.toArray⟩,.string ⟨x5.toArray⟩] 150));have hgW:w1.grownBy W none:=by rw[<-hW];exact ak (ai w1 none) _
   have Ld:Hd (VX A 0 0 0 ⟨#[]⟩ ⟨#[]⟩ W):=by show W.heap[A]?=_;rw[hgW.block A hlt0 (by simp)];exact jU.o
   have HRW:=ae (HR.o.grow hgW);have bD:=ae (ag HG.o hgW);rw[hW];clear hW hgW ca0 ca1 ca2 ca3 ca4 ra r1 hlt0 hlt1 HR HG jU;obtain⟨ca0,ca1,ca2,ca3,ca4⟩:=Ld.o.cells;have ra:=Ld.o.f;have r1:=HRW.o.c1;have HF:Hd ((dK s.data.toList).2.2=zeroV/\(dK s.data.toList).2.1=j/\(dK s.data.toList).1=E):=by
    have h0:¬E=0:=by simpa using hz
    have h:=HE.o;exact⟨ab5 _ (by rw[<-h.1];exact h0),h.2.2 h0,h.1.symm⟩
   go_region
   go_wp2;refine bodyPost_ret (qL (p:=2) (u:=3) (r:=4) rfl _ _ A _ _ (0,0) _ rfl (G7 Ld.o 0 0 0 ⟨#[]⟩ ⟨#[]⟩) underlying150 rfl (by kernel_rfl)) rfl ⟨?_,aH (qM bD.o oN.o 0 0 0 ⟨#[]⟩ ⟨#[]⟩) 1⟩;rw[HF.o.1,HF.o.2.1,HF.o.2.2];rfl
  | true =>
   have hE0:E=0:=by simpa using hz
   have HF:Hd ((dK s.data.toList).2.2=⟨x1,x2,x3,x4,x5⟩/\(dK s.data.toList).2.1=0/\(dK s.data.toList).1=0):=by
    have h:=HE.o;have h1:(dK s.data.toList).1=0:=by rw[<-h.1];exact hE0
    exact⟨h.2.1 hE0,ab6 _ h1,h1⟩
   subst hE0;go_wp2;refine bodyPost_ret (qL (p:=2) (u:=3) (r:=4) rfl _ _ A _ #[.int .i64 x1,.int .i64 x2,.int .i64 x3,.string ⟨x4.toArray⟩,.string ⟨x5.toArray⟩] (0,0) _ rfl ((Lib.alloc_old _ _ _ (by simpa [World.setCell] using hlt0)).trans (G7 jU.o x1 x2 x3 ⟨x4.toArray⟩ ⟨x5.toArray⟩)) underlying150 rfl (by kernel_rfl)) rfl ⟨?_,ak (qM HG.o oN.o x1 x2 x3 ⟨x4.toArray⟩ ⟨x5.toArray⟩) _⟩;rw[HF.o.1,HF.o.2.1,HF.o.2.2];rfl
open Go.RowKit
def VS(b:Nat)(s:ByteArray)(i:Nat)(E:Int)(a:Nat)(w:World):Prop:=w.heap[b]?=some (.cells #[.string s,.int .i64 (i:Int),.int .i64 E,.int .i64 (a:Int)] 93 (0,0))
theorem VS.c0{b:Nat}{s:ByteArray}{i:Nat}{E:Int}{a:Nat}{w:World}(h:VS b s i E a w):w.cell? ⟨b,0,none⟩=some (.string s):=by rw[ah h];rfl
theorem VS.c1{b:Nat}{s:ByteArray}{i:Nat}{E:Int}{a:Nat}{w:World}(h:VS b s i E a w):w.cell? ⟨b,1,none⟩=some (.int .i64 (i:Int)):=by rw[ah h];rfl
theorem VS.c2{b:Nat}{s:ByteArray}{i:Nat}{E:Int}{a:Nat}{w:World}(h:VS b s i E a w):w.cell? ⟨b,2,none⟩=some (.int .i64 E):=by rw[ah h];rfl
theorem VS.c3{b:Nat}{s:ByteArray}{i:Nat}{E:Int}{a:Nat}{w:World}(h:VS b s i E a w):w.cell? ⟨b,3,none⟩=some (.int .i64 (a:Int)):=by rw[ah h];rfl
theorem VS.f1{b:Nat}{s:ByteArray}{i:Nat}{E:Int}{a:Nat}{w:World}(h:VS b s i E a w):w.frozen? ⟨b,1,none⟩=false:=Lib.frozen_of_heap h 1
theorem VS.f2{b:Nat}{s:ByteArray}{i:Nat}{E:Int}{a:Nat}{w:World}(h:VS b s i E a w):w.frozen? ⟨b,2,none⟩=false:=Lib.frozen_of_heap h 2
theorem VS.f3{b:Nat}{s:ByteArray}{i:Nat}{E:Int}{a:Nat}{w:World}(h:VS b s i E a w):w.frozen? ⟨b,3,none⟩=false:=Lib.frozen_of_heap h 3
theorem VS.drew{b:Nat}{s:ByteArray}{i:Nat}{E:Int}{a:Nat}{w:World}(h:VS b s i E a w)(n:Nat):VS b s i E a (w.drewN n):=h
theorem VS.set1{b:Nat}{s:ByteArray}{i:Nat}{E:Int}{a:Nat}{w:World}(h:VS b s i E a w)(j:Nat):VS b s j E a (w.setCell ⟨b,1,none⟩ (.int .i64 (j:Int))):=by
 unfold VS at h ⊢;simp[World.setCell,Array.getElem?_modify,h]
theorem VS.set2{b:Nat}{s:ByteArray}{i:Nat}{E:Int}{a:Nat}{w:World}(h:VS b s i E a w)(F:Int):VS b s i F a (w.setCell ⟨b,2,none⟩ (.int .i64 F)):=by
 unfold VS at h ⊢;simp[World.setCell,Array.getElem?_modify,h]
theorem VS.set3{b:Nat}{s:ByteArray}{i:Nat}{E:Int}{a:Nat}{w:World}(h:VS b s i E a w)(c:Nat):VS b s i E c (w.setCell ⟨b,3,none⟩ (.int .i64 (c:Int))):=by
 unfold VS at h ⊢;simp[World.setCell,Array.getElem?_modify,h]
theorem ul(b:Nat)(s:ByteArray)(i:Nat)(a:Nat)(F:Int)(c:Nat)(w:World)(h:VS b s i 0 a w) :
  Calls prog 48 #[.pointer (some ⟨b,0,none⟩),.int .i64 F,.int .i64 (c:Int)] w fun e w'=>e=.returned (.tuple #[])/\VS b s i F c w'/\w.grownBy w' (some b):=by
 have h2:=h.c2;have h3:=h.c3;have f2:=h.f2;have f3:=h.f3;have HR:=ae h;clear h;go_enter func48,ntmps48;go_wp2
 go_end0
 exact⟨rfl,(HR.o.set2 F).set3 c,bI (bI (ai w _) _ _) _ _⟩
theorem qi(b:Nat)(s:ByteArray)(i:Nat)(E:Int)(hE:E≠0)(a:Nat)(F:Int)(c:Nat)(w:World)(h:VS b s i E a w) :
  Calls prog 48 #[.pointer (some ⟨b,0,none⟩),.int .i64 F,.int .i64 (c:Int)] w fun e w'=>e=.returned (.tuple #[])/\VS b s i E a w'/\w.grownBy w' (some b):=by
 have h2:=h.c2;have HR:=ae h;have hn:(E == 0)=false:=by simpa using hE
 clear h hE;go_enter func48,ntmps48;go_wp2
 go_end0
 exact⟨rfl,HR.o,ai w _⟩
theorem ab7(b:Nat)(s:ByteArray)(i:Nat)(E:Int)(a:Nat)(c:UInt8)(w:World)(hc:s.data.toList[i]?=some c)(h:VS b s i E a w)(hs:s.size<2 ^ 62) :
  Calls prog 46 #[.pointer (some ⟨b,0,none⟩),.int .u8 (c.toNat:Int)] w fun e w'=>e=.returned (.tuple #[])/\VS b s (i+1) E a w'/\w.grownBy w' (some b):=by
 have h0:=h.c0;have h1:=h.c1;have f1:=h.f1;have HR:=ae h;clear h;have hlt:i<s.size:=by have:=(List.getElem?_eq_some_iff.1 hc).1;simpa using this
 rw[iR s i hlt]at hc;have hc':=Option.some.inj hc;clear hc;subst hc';have hd:decide ((s.size:Int)<=(i:Int))=false:=by simp;omega
 have hw:IntKind.i64.wrap ((i:Int)+1)=((i+1:Nat):Int):=by rw[IntKind.wrap_i64];omega
 go_enter func46,ntmps46;go_wp2;go_quiet (fail);go_wp2
 go_end0
 exact⟨rfl,(HR.o.drew nq).set1 (i+1),bI (aH (ai w _) _) _ _⟩
theorem ab8(b:Nat)(s:ByteArray)(i:Nat)(a:Nat)(c:UInt8)(w:World)(hi:i<=s.size)(hc:¬s.data.toList[i]?=some c)(h:VS b s i 0 a w)(hs:s.size<2 ^ 62) :
  Calls prog 46 #[.pointer (some ⟨b,0,none⟩),.int .u8 (c.toNat:Int)] w fun e w'=>e=.returned (.tuple #[])/\VS b s i 2 i w'/\w.grownBy w' (some b):=by
 have h0:=h.c0;have h1:=h.c1;have HR:=ae h;clear h
 by_cases hlt:i<s.size
 ·rw[iR s i hlt]at hc;have hne:s[i]≠c:=fun e=>hc (by rw[e])
  have hn:((s[i].toNat:Int) == (c.toNat:Int))=false:=by
   simp only[beq_eq_false_iff_ne,ne_eq];intro e;exact hne (UInt8.toNat_inj.1 (by omega))
  have hd:decide ((s.size:Int)<=(i:Int))=false:=by simp;omega
  have hm:((s[i].toNat:Int) != (c.toNat:Int))=true:=by rw[bne,hn];rfl
  clear hc hne;go_enter func46,ntmps46;go_wp2;go_quiet (fail);have e1:(w.drewN nq).cell? ⟨b,1,none⟩=some (.int .i64 (i:Int)):=h1;go_wp2_with (go_at_call 48;refine(ul b s i a 2 i _ (HR.o.drew _)).mono ?_);rintro e w1 ⟨rfl,hr,hg⟩;go_wp2
  (try simp only[Exit.inBlock,Exit.then])
  refine bodyPost_ret (results_none rfl _ _ _) rfl ?_;exact⟨rfl,hr,ag (aH (ai w _) _) hg⟩
 ·have hd:decide ((s.size:Int)<=(i:Int))=true:=by simp;omega
  clear hc;go_enter func46,ntmps46;go_wp2;go_quiet (fail);have e1:(w.drewN nq).cell? ⟨b,1,none⟩=some (.int .i64 (i:Int)):=h1;go_wp2_with (go_at_call 48;refine(ul b s i a 2 i _ (HR.o.drew _)).mono ?_);rintro e w1 ⟨rfl,hr,hg⟩;go_wp2
  (try simp only[Exit.inBlock,Exit.then])
  refine bodyPost_ret (results_none rfl _ _ _) rfl ?_;exact⟨rfl,hr,ag (aH (ai w _) _) hg⟩
open Go.RowKit
def rQ(n:Int)(c:UInt8):Int:=if n<=999999999 then 10*n+((c.toNat:Int)-48) else n
def fZ(l:List UInt8):Int:=l.foldl rQ 0
theorem Le(T:List UInt8)(m:Nat)(hm:m<T.length):fZ (T.take (m+1))=rQ (fZ (T.take m)) T[m]:=by
 rw[List.take_succ_eq_append_getElem hm];unfold fZ;rw[List.foldl_append];rfl
theorem Tm(T:List UInt8)(h:T.all aP=true):∀m,m<=T.length->(0<=fZ (T.take m)/\fZ (T.take m)<=9999999999)/\(aY (T.take m)<=999999999->fZ (T.take m)=aY (T.take m))/\(999999999<aY (T.take m)->999999999<fZ (T.take m)):=by
 intro m
 induction m with
 | zero=>intro _;exact⟨⟨Int.le_refl 0,by show(0:Int)<=_;omega⟩,fun _=>rfl,fun h=>absurd h (by show ¬(999999999:Int)<0;omega)⟩
 | succ m ih =>
  intro hm;obtain⟨i1,i2,i3⟩:=ih (by omega);have hdg:=uY (List.all_eq_true.1 h T[m] (List.getElem_mem (by omega)));rw[Le T m (by omega),RI T m (by omega)];have hv0:0<=aY (T.take m):=Ea _ (List.all_eq_true.2 (fun c hc=>List.all_eq_true.1 h c (List.mem_of_mem_take hc)));unfold rQ
  by_cases hb:aY (T.take m)<=999999999
  ·have e:=i2 hb;rw[e,if_pos hb];refine⟨⟨by omega,by omega⟩,fun _=>rfl,fun h=>h⟩
  ·have e:=i3 (by omega);rw[if_neg (by omega)];exact⟨i1,fun h=>by omega,fun _=>e⟩
theorem VS.place{b:Nat}{s:ByteArray}{i:Nat}{E:Int}{a:Nat}{w:World}(h:VS b s i E a w):placeOf b w=i:=by unfold placeOf;rw[h.c1];simp
def Lh(b:Nat)(s:ByteArray)(i:Nat)(w:World)(e:Ending)(w':World):Prop :=
 ∃(v:Int) (j:Nat) (E:Int) (c:Nat),e=.returned (.int .i64 v)/\VS b s j E c w'/\w.grownBy w' (some b)/\E=(rdNum s.data.toList i).1/\(E=0->v=(rdNum s.data.toList i).2.1/\j=(rdNum s.data.toList i).2.2/\j<=s.size)/\(E≠0->c=(rdNum s.data.toList i).2.2)
theorem Tn(b:Nat)(s:ByteArray)(i:Nat)(a:Nat)(w:World)(hi:i<=s.size)(h:VS b s i 0 a w)(hs:s.size<2 ^ 62) :
  Calls prog 45 #[.pointer (some ⟨b,0,none⟩)] w (Lh b s i w):=by
 have h1:=h.c1;have HR:=ae h;have hsl:s.data.toList.length=s.size:=by simp
 have hle:i+runN aP s.data.toList i<=s.size:=by have:=mG aP s.data.toList i (by rw[hsl];exact hi);rw[hsl]at this;exact this
 have hln:=pV s.data.toList i (runN aP s.data.toList i) (by rw[hsl];exact hle);have hall:=yL aP s.data.toList i;obtain⟨k,hk⟩:=zN (runN aP s.data.toList i);have HS:Hd (∀hj:i+k<s.size,aP s[i+k]=false):=by
  show ∀hj:i+k<s.size,aP s[i+k]=false;intro hj;have:=uZ aP s.data.toList i (by rw[hk];simpa using hj);simp only[hk]at this;exact this
 rw[hk]at hle hln hall;obtain⟨T,hT⟩:=zN (aO s.data.toList i k);have zi:Hd (∀m (hm:m<k) (h2:i+m<s.size) (h3:m<T.length),s[i+m]=T[m]):=by
  show ∀m (hm:m<k) (h2:i+m<s.size) (h3:m<T.length),s[i+m]=T[m];intro m hm h2 h3;have e1:T[m]?=s.data.toList[i+m]?:=by rw[<-hT];unfold aO;rw[List.getElem?_take_of_lt hm,List.getElem?_drop]
  rw[iR s (i+m) h2,List.getElem?_eq_getElem h3]at e1;exact(Option.some.inj e1).symm
 rw[hT]at hln hall;have HP:Hd (∀(v:Int) (j:Nat) (E:Int) (c:Nat) (w':World),VS b s j E c w'->w.grownBy w' (some b) →
   (k=0/\E=2/\c=i\/¬k=0/\(1<k/\s.data.toList[i]?=some 48)/\E=2/\c=i\/¬k=0/\¬(1<k/\s.data.toList[i]?=some 48)/\aY T > 999999999/\E=3/\c=i\/¬k=0/\¬(1<k/\s.data.toList[i]?=some 48)/\¬aY T > 999999999/\E=0/\v=aY T/\j=i+k)->Lh b s i w (.returned (.int .i64 v)) w'):=by
  intro v j E c w' hv hg ho;refine⟨v,j,E,c,rfl,hv,hg,?_⟩;unfold rdNum;rw[hk,hT]
  rcases ho with⟨o1,rfl,rfl⟩|⟨o1,o2,rfl,rfl⟩|⟨o1,o2,o3,rfl,rfl⟩|⟨o1,o2,o3,rfl,rfl,rfl⟩
  ·rw[if_pos o1];exact⟨rfl,fun h=>absurd h (by decide),fun _=>rfl⟩
  ·rw[if_neg o1,if_pos o2];exact⟨rfl,fun h=>absurd h (by decide),fun _=>rfl⟩
  ·rw[if_neg o1,if_neg o2,if_pos o3];exact⟨rfl,fun h=>absurd h (by decide),fun _=>rfl⟩
  ·rw[if_neg o1,if_neg o2,if_neg o3];exact⟨rfl,fun _=>⟨rfl,rfl,hle⟩,fun h=>absurd rfl h⟩
 have HD:Hd (∀m j (hm:m<k) (hj:j=i+m) (h2:j<s.size),aP s[j]=true):=by
  show ∀m j (hm:m<k) (hj:j=i+m) (h2:j<s.size),aP s[j]=true;intro m j hm hj h2;subst hj;rw[zi.o m hm h2 (by omega)];exact List.all_eq_true.1 hall _ (List.getElem_mem _)
 have EH:Hd (∀m j (hm:m<k) (hj:j=i+m) (h2:j<s.size),fZ (T.take (m+1))=rQ (fZ (T.take m)) s[j]):=by
  show ∀m j (hm:m<k) (hj:j=i+m) (h2:j<s.size),fZ (T.take (m+1))=rQ (fZ (T.take m)) s[j];intro m j hm hj h2;subst hj;rw[zi.o m hm h2 (by omega)];exact Le T m (by omega)
 have HC:Hd (T.length=k/\∀m,m<=k->(0<=fZ (T.take m)/\fZ (T.take m)<=9999999999)/\(aY (T.take m)<=999999999->fZ (T.take m)=aY (T.take m))/\(999999999<aY (T.take m)->999999999<fZ (T.take m))):=⟨hln,fun m hm=>Tm T hall m (by omega)⟩;have HL:=ae hle;clear hk hT hln hall h hsl hle hi;go_enter func45,ntmps45;go_wp2;go_loopw [4] (fun vn wr=>∃m j:Nat,j=i+m/\m<=k/\vn=.int .i64 (fZ (T.take m))/\VS b s j 0 a wr/\w.grownBy wr (some b)) (fun _ wr=>s.size-placeOf b wr)
 case atStart=>exact⟨0,i,rfl,Nat.zero_le _,rfl,HR.o,ai _ _⟩
 case round =>
  obtain⟨m,j,hj,hmk,rfl,hrs,hgb⟩:=hrel;have d0:=hrs.c0;have d1:=hrs.c1;have df:=hrs.f1;have aA:=ae hrs;have aZ:=ae hgb;have hil:=HL.o;have hcb:=(HC.o.2 m hmk).1;clear hrs hgb h1 HR
  by_cases hlt:m<k
  ·have hjs:j<s.size:=by omega
   have hD:=HD.o m j hlt hj hjs;have hdg:=uY hD;have bC:=ae (EH.o m j hlt hj hjs);have HK:Hd (m<k/\j=i+m/\j<s.size):=⟨hlt,hj,hjs⟩;obtain⟨v,hv⟩:∃v,v=fZ (T.take m):=⟨_,rfl⟩;rw[<-hv]at hcb bC;rw[<-hv];clear hv hlt hil hmk hj;have hlt2:(j:Int)<(s.size:Int):=by omega
   have hw:IntKind.i64.wrap ((j:Int)+1)=((j+1:Nat):Int):=by rw[IntKind.wrap_i64];omega
   by_cases hb:v<=999999999
   ·have r1:IntKind.i64.wrap (10*v)=10*v:=by rw[IntKind.wrap_i64];omega
    have r2:IntKind.i64.wrap (10*v+(s[j].toNat:Int))=10*v+(s[j].toNat:Int):=by rw[IntKind.wrap_i64];omega
    have r3:IntKind.i64.wrap (10*v+(s[j].toNat:Int)-48)=10*v+(s[j].toNat:Int)-48:=by rw[IntKind.wrap_i64];omega
    have HN:Hd (10*v+(s[j].toNat:Int)-48=fZ (T.take (m+1))):=by show _=_;rw[bC.o];unfold rQ;rw[if_pos hb];omega
    go_wp2;go_quiet (first|(go_at_call 72;exact Calls.quiet_of_same (mJ _ _)));go_wp2;have iT:=ae aA.o.place;obtain⟨W,hW⟩:=zN (wr.drewN nq);have e0:W.cell? ⟨b,0,none⟩=some (.string s):=by rw[<-hW];exact d0
    have e1:W.cell? ⟨b,1,none⟩=some (.int .i64 (j:Int)):=by rw[<-hW];exact d1
    have ef:W.frozen? ⟨b,1,none⟩=false:=by rw[<-hW];exact df
    have HW:Hd (VS b s j 0 a W/\w.grownBy W (some b)):=by
     show VS b s j 0 a W/\w.grownBy W (some b);rw[<-hW];exact⟨aA.o.drew _,aH aZ.o _⟩
    rw[hW];clear hW d0 d1 df aA aZ;go_quiet (fail);go_wp2;go_roundw
    case rel=>exact⟨m+1,j+1,by have:=HK.o;omega,by have:=HK.o;omega,by rw[<-HN.o],(HW.o.1.drew _).set1 (j+1),bI (aH HW.o.2 _) _ _⟩
    case measure =>
     have e2:=((HW.o.1.drew nq).set1 (j+1)).place;rw[iT.o];exact Nat.lt_of_le_of_lt (Nat.le_of_eq (congrArg (s.size - ·) e2)) (by omega)
   ·have HN:Hd (v=fZ (T.take (m+1))):=by show _=_;rw[bC.o];unfold rQ;rw[if_neg hb]
    go_wp2;go_quiet (first|(go_at_call 72;exact Calls.quiet_of_same (mJ _ _)));go_wp2;go_roundw
    case rel=>exact⟨m+1,j+1,by have:=HK.o;omega,by have:=HK.o;omega,by rw[<-HN.o],(aA.o.drew _).set1 (j+1),bI (aH aZ.o _) _ _⟩
    case measure =>
     have e1:=aA.o.place;have e2:=((aA.o.drew nq).set1 (j+1)).place;rw[e1];exact Nat.lt_of_le_of_lt (Nat.le_of_eq (congrArg (s.size - ·) e2)) (by omega)
  ·have xO:m=k:=by omega
   subst m;obtain⟨v,hv⟩:∃v,v=fZ (T.take k):=⟨_,rfl⟩;have EI:=List.take_of_length_le (by rw[HC.o.1];exact Nat.le_refl _);have iZ:Hd ((aY T<=999999999->v=aY T)/\(999999999<aY T->999999999<v)):=by
    have:=(HC.o.2 k hmk).2;rw[EI]at this hv;show(aY T<=999999999->v=aY T)/\(999999999<aY T->999999999<v);rw[hv];exact this
   have hv0:k=0->v=0:=fun h=>by rw[hv,h];rfl
   rw[<-hv]at hcb;rw[<-hv];have iH:Hd (j=i+k/\i+k<=s.size):=⟨hj,hil⟩;clear hv EI HD EH HC zi hlt hmk hil;have hen:(∃hjs:j<s.size,aP s[j]=false)\/(¬j<s.size/\decide ((j:Int)<(s.size:Int))=false):=by
    by_cases hjs:j<s.size
    ·exact .inl ⟨hjs,by subst hj;exact HS.o hjs⟩
    ·exact .inr ⟨hjs,by simp;omega⟩
   clear HS HL hj
   rcases hen with⟨hjs,hD⟩|⟨hjn,hd2⟩
   all_goals (
    first
     | (have hlt2:(j:Int)<(s.size:Int):=by omega
        go_wp2;go_quiet (first|(go_at_call 72;exact Calls.quiet_of_same (mJ _ _))))
     | (go_wp2
        go_quiet (fail))
    obtain⟨W,hW⟩:=zN (wr.drewN nq);have e0:W.cell? ⟨b,0,none⟩=some (.string s):=by rw[<-hW];exact d0
    have e1:W.cell? ⟨b,1,none⟩=some (.int .i64 (j:Int)):=by rw[<-hW];exact d1
    have ef:W.frozen? ⟨b,1,none⟩=false:=by rw[<-hW];exact df
    have HW:Hd (VS b s j 0 a W/\w.grownBy W (some b)):=by
     show VS b s j 0 a W/\w.grownBy W (some b);rw[<-hW];exact⟨aA.o.drew _,aH aZ.o _⟩
    rw[hW];clear hW d0 d1 df aA aZ;have hj:=iH.o.1;have hil:=iH.o.2;have q2:IntKind.i64.wrap ((j:Int)-(i:Int))=(k:Int):=by rw[IntKind.wrap_i64];omega
    by_cases hk0:k=0
    ·have q1:((j:Int) == (i:Int))=true:=by simp;omega
     have q5:decide ((999999999:Int)<v)=false:=by simp;have:=hv0 hk0;omega
     have HO:=ae hk0;clear hk0 hv0 hj hil q2;go_wp2_with (go_at_call 48;refine(ul b s j a 2 i _ HW.o.1).mono ?_);rintro e w1 ⟨rfl,hr,hg⟩;go_wp2;go_ret;exact HP.o _ j 2 i _ hr (ag HW.o.2 hg) (Or.inl ⟨HO.o,rfl,rfl⟩)
    ·have q1:((j:Int) == (i:Int))=false:=by simp;omega
     have his:i<s.size:=by omega
     have hgd:=iR s i his;have HJ:=ae hj;have hz:(decide ((1:Int)<(k:Int))=true/\((s[i].toNat:Int) == 48)=true/\1<k/\s.data.toList[i]?=some 48)\/((decide ((1:Int)<(k:Int))=true/\((s[i].toNat:Int) == 48)=false)/\¬(1<k/\s.data.toList[i]?=some 48))\/(decide ((1:Int)<(k:Int))=false/\¬(1<k/\s.data.toList[i]?=some 48)):=by
      by_cases h1k:1<k
      ·have q3:decide ((1:Int)<(k:Int))=true:=by simp;omega
       cases q4:((s[i].toNat:Int) == 48) with
       | true=>exact .inl ⟨q3,rfl,h1k,by rw[hgd];congr 1;exact UInt8.toNat_inj.1 (by simp at q4;show s[i].toNat=48;omega)⟩
       | false=>exact .inr (.inl ⟨⟨q3,rfl⟩,fun h=>by
         have:=h.2;rw[hgd]at this;have e:=Option.some.inj this;rw[e]at q4;simp at q4⟩)
      ·exact .inr (.inr ⟨by simp;omega,fun h=>h1k h.1⟩)
     rcases hz with⟨q3,q4,ho⟩|⟨⟨q3,q4⟩,ho⟩|⟨q3,ho⟩
     ·have HO:Hd (¬k=0/\(1<k/\s.data.toList[i]?=some 48)):=⟨hk0,ho⟩;clear hgd hk0 hv0 hj hil ho
      cases q5:decide ((999999999:Int)<v) with
      | true =>
       go_wp2_with (go_at_call 48;refine(ul b s j a 2 i _ HW.o.1).mono ?_);rintro e w1 ⟨rfl,hr,hg⟩;go_wp2_with (go_at_call 48;refine(qi b s j 2 (by decide) i 3 i _ hr).mono ?_);rintro e w2 ⟨rfl,hr2,hg2⟩;go_wp2;go_ret;exact HP.o _ j 2 i _ hr2 (ag (ag HW.o.2 hg) hg2) (Or.inr (Or.inl ⟨HO.o.1,HO.o.2,rfl,rfl⟩))
      | false =>
       go_wp2_with (go_at_call 48;refine(ul b s j a 2 i _ HW.o.1).mono ?_);rintro e w1 ⟨rfl,hr,hg⟩;go_wp2;go_ret;exact HP.o _ j 2 i _ hr (ag HW.o.2 hg) (Or.inr (Or.inl ⟨HO.o.1,HO.o.2,rfl,rfl⟩))
     all_goals (
      have HO:Hd (¬k=0/\¬(1<k/\s.data.toList[i]?=some 48)):=⟨hk0,ho⟩;clear hgd hk0 hv0 ho hj hil
      cases q5:decide ((999999999:Int)<v) with
      | true =>
       have HB:Hd (aY T > 999999999):=by
        show aY T > 999999999;have h1:=of_decide_eq_true q5;refine Int.not_le.1 (fun h2=>?_);have:=iZ.o.1 h2;omega
       go_wp2_with (go_at_call 48;refine(ul b s j a 3 i _ HW.o.1).mono ?_);rintro e w1 ⟨rfl,hr,hg⟩;go_wp2;go_ret;exact HP.o _ j 3 i _ hr (ag HW.o.2 hg) (Or.inr (Or.inr (Or.inl ⟨HO.o.1,HO.o.2,HB.o,rfl,rfl⟩)))
      | false =>
       have HB:Hd (¬aY T > 999999999):=by
        show ¬aY T > 999999999;have h1:=of_decide_eq_false q5;exact fun h2=>h1 (iZ.o.2 h2)
       have HE:=ae (iZ.o.1 (Int.not_lt.1 HB.o));go_wp2;go_ret;exact HP.o _ j 0 a _ HW.o.1 HW.o.2 (Or.inr (Or.inr (Or.inr ⟨HO.o.1,HO.o.2,HB.o,rfl,HE.o,HJ.o⟩)))))
end Go.Proofs.YtiinliaoojfjaaaGreatDoor
