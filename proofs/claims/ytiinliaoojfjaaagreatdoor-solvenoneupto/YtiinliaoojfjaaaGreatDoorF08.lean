import Derived.Test.YtiinliaoojfjaaaGreatDoorF01
import Derived.Deep.RegionHeld3
set_option linter.all false
set_option maxRecDepth 100000
set_option maxHeartbeats 0
open Go.Proofs.Tryz
namespace Go.Proofs.YtiinliaoojfjaaaGreatDoor
open Go.RowKit
theorem tZ{w wa wb:World}{B:Nat}(h:w.grownBy wa none)(hg:wa.grownBy wb (some B))(hB:w.heap.size<=B):w.grownBy wb none :=
 ⟨hg.os.trans h.os,hg.tape.trans h.tape,hg.output.trans h.output,Nat.le_trans h.size hg.size,fun k hk hn=>(hg.block k (Nat.lt_of_lt_of_le hk h.size) (fun e=>by have:=Option.some.inj e;omega)).trans (h.block k hk hn)⟩
theorem Kw{w w':World}{r:Option Nat}(h:w.grownBy w' r):w.grownBy w'.drew r:=⟨h.os,h.tape,h.output,h.size,h.block⟩
theorem xE(A:Nat)(w:World)(h:A<w.heap.size) :
  Calls prog 216 #[.pointer (some ⟨A,0,none⟩)] w fun e w'=>e=.returned (.agg #[.pointer (some ⟨A,0,none⟩),.pointer (some ⟨A,1,none⟩),.pointer (some ⟨A,2,none⟩)])/\w.grownBy w' none:=by
 go_enter func216,ntmps216;go_wp2;obtain⟨B,hB⟩:=zN (w.heap.size);obtain⟨W,hW⟩:=zN (w.alloc (.cells #[.pointer none,.pointer none,.pointer none] 220));have hrow:W.heap[B]?=some (.cells #[.pointer none,.pointer none,.pointer none] 220 (0,0)):=by rw[<-hW,<-hB];exact heap_alloc_new w _
 have HG:Hd (w.grownBy W none):=by show w.grownBy W none;rw[<-hW];exact ak (ai w none) _
 have HR:=ae hrow;have c0:W.cell? ⟨B,0,none⟩=some (.pointer none):=by rw[ah hrow];rfl
 have c1:W.cell? ⟨B,1,none⟩=some (.pointer none):=by rw[ah hrow];rfl
 have c2:W.cell? ⟨B,2,none⟩=some (.pointer none):=by rw[ah hrow];rfl
 have ff:=Lib.frozen_of_heap hrow;have HB:Hd (w.heap.size<=B):=by show _<=_;omega
 try rw[hW]
 try rw[hB]
 clear hrow hW hB h
 go_region_held3 (fun w'=>True) (trivial) (fail)
 have pW:Hd (w.grownBy (((W.setCell ⟨B,0,none⟩ (.pointer (some ⟨A,0,none⟩))).setCell ⟨B,1,none⟩ (.pointer (some ⟨A,1,none⟩))).setCell ⟨B,2,none⟩ (.pointer (some ⟨A,2,none⟩))).drew none):=tZ HG.o (Kw (bI (bI (bI (ai W (some B)) _ _) _ _) _ _)) HB.o;clear c0 c1 c2 ff;go_wp2;refine bodyPost_ret (results_cell_row rfl _ _ B 220 #[.pointer (some ⟨A,0,none⟩),.pointer (some ⟨A,1,none⟩),.pointer (some ⟨A,2,none⟩)] (0,0) _ rfl ?_ underlying220 rfl (by kernel_rfl)) rfl ⟨rfl,pW.o⟩;have h3:(((W.setCell ⟨B,0,none⟩ (.pointer (some ⟨A,0,none⟩))).setCell ⟨B,1,none⟩ (.pointer (some ⟨A,1,none⟩))).setCell ⟨B,2,none⟩ (.pointer (some ⟨A,2,none⟩))).heap[B]?=some (.cells #[.pointer (some ⟨A,0,none⟩),.pointer (some ⟨A,1,none⟩),.pointer (some ⟨A,2,none⟩)] 220 (0,0)):=by
  have hr:=HR.o;simp[World.setCell,Array.getElem?_modify,hr]
 exact h3
theorem aaP(a b c n:Int)(P:ByteArray)(w:World) :
  Calls prog 207 #[.agg #[.int .i64 a,.int .i64 b,.int .i64 c,.string P,.string ⟨#[]⟩,.int .i64 n]] w fun e w'=>e=.returned (.agg #[.int .i64 a,.int .i64 b,.int .i64 c,.string P,.string ⟨#[]⟩,.int .i64 0,.int .i64 0,.int .i64 0,.string ⟨#[]⟩,.string ⟨#[]⟩,.bool true])/\w.grownBy w' none:=by
 go_enter func207,ntmps207;go_wp2;refine bodyPost_ret (results_cell_row rfl _ _ (w.heap.size+1) 203 #[.int .i64 a,.int .i64 b,.int .i64 c,.string P,.string ⟨#[]⟩,.int .i64 0,.int .i64 0,.int .i64 0,.string ⟨#[]⟩,.string ⟨#[]⟩,.bool true] (0,0) _ rfl ?_ underlying203 rfl (by kernel_rfl)) rfl ⟨rfl,ak (ak (ai w none) _) _⟩;have:=heap_alloc_new (w.alloc (.cells #[.int .i64 a,.int .i64 b,.int .i64 c,.string P,.string ⟨#[]⟩,.int .i64 n] 247)) (.cells #[.int .i64 a,.int .i64 b,.int .i64 c,.string P,.string ⟨#[]⟩,.int .i64 0,.int .i64 0,.int .i64 0,.string ⟨#[]⟩,.string ⟨#[]⟩,.bool true] 203);rw[show(w.alloc (.cells #[.int .i64 a,.int .i64 b,.int .i64 c,.string P,.string ⟨#[]⟩,.int .i64 n] 247)).heap.size=w.heap.size+1 by simp]at this;exact this
open Go.RowKit
def VA(A:Nat)(x1 x2 x3:Int)(P B:ByteArray)(w:World):Prop:=w.heap[A]?=some (.cells #[.int .i64 x1,.int .i64 x2,.int .i64 x3,.string P,.string B] 150 (0,0))
theorem VA.c0{A:Nat}{x1 x2 x3:Int}{P B:ByteArray}{w:World}(h:VA A x1 x2 x3 P B w):w.cell? ⟨A,0,none⟩=some (.int .i64 x1):=by rw[ah h];rfl
theorem VA.c1{A:Nat}{x1 x2 x3:Int}{P B:ByteArray}{w:World}(h:VA A x1 x2 x3 P B w):w.cell? ⟨A,1,none⟩=some (.int .i64 x2):=by rw[ah h];rfl
theorem VA.c2{A:Nat}{x1 x2 x3:Int}{P B:ByteArray}{w:World}(h:VA A x1 x2 x3 P B w):w.cell? ⟨A,2,none⟩=some (.int .i64 x3):=by rw[ah h];rfl
theorem VA.c3{A:Nat}{x1 x2 x3:Int}{P B:ByteArray}{w:World}(h:VA A x1 x2 x3 P B w):w.cell? ⟨A,3,none⟩=some (.string P):=by rw[ah h];rfl
theorem VA.c4{A:Nat}{x1 x2 x3:Int}{P B:ByteArray}{w:World}(h:VA A x1 x2 x3 P B w):w.cell? ⟨A,4,none⟩=some (.string B):=by rw[ah h];rfl
theorem VA.other{A V:Nat}{x1 x2 x3:Int}{P B:ByteArray}{w:World}(h:VA A x1 x2 x3 P B w)(hn:A≠V)(o:Nat)(x:Value):VA A x1 x2 x3 P B (w.setCell ⟨V,o,none⟩ x):=by
 unfold VA at h ⊢;rw[heap_setCell_other w _ A x (by simpa using hn)];exact h
theorem VA.f{A:Nat}{x1 x2 x3:Int}{P B:ByteArray}{w:World}(h:VA A x1 x2 x3 P B w)(o:Nat):w.frozen? ⟨A,o,none⟩=false:=Lib.frozen_of_heap h o
theorem VA.grow{A:Nat}{x1 x2 x3:Int}{P B:ByteArray}{w w':World}(h:VA A x1 x2 x3 P B w)(hg:w.grownBy w' none):VA A x1 x2 x3 P B w':=by
 unfold VA at h ⊢;rw[hg.block A ((aC h)) (by simp)];exact h
theorem VA.set0{A:Nat}{x1 x2 x3:Int}{P B:ByteArray}{w:World}(h:VA A x1 x2 x3 P B w)(y:Int):VA A y x2 x3 P B (w.setCell ⟨A,0,none⟩ (.int .i64 y)):=by
 unfold VA at h ⊢;simp[World.setCell,Array.getElem?_modify,h]
theorem VA.set1{A:Nat}{x1 x2 x3:Int}{P B:ByteArray}{w:World}(h:VA A x1 x2 x3 P B w)(y:Int):VA A x1 y x3 P B (w.setCell ⟨A,1,none⟩ (.int .i64 y)):=by
 unfold VA at h ⊢;simp[World.setCell,Array.getElem?_modify,h]
theorem VA.set2{A:Nat}{x1 x2 x3:Int}{P B:ByteArray}{w:World}(h:VA A x1 x2 x3 P B w)(y:Int):VA A x1 x2 y P B (w.setCell ⟨A,2,none⟩ (.int .i64 y)):=by
 unfold VA at h ⊢;simp[World.setCell,Array.getElem?_modify,h]
theorem VA.set3{A:Nat}{x1 x2 x3:Int}{P B:ByteArray}{w:World}(h:VA A x1 x2 x3 P B w)(y:ByteArray):VA A x1 x2 x3 y B (w.setCell ⟨A,3,none⟩ (.string y)):=by
 unfold VA at h ⊢;simp[World.setCell,Array.getElem?_modify,h]
theorem xG(v:Nat)(w:World):(Instr.index 220 (.agg #[.pointer (some ⟨v,0,none⟩),.pointer (some ⟨v,1,none⟩),.pointer (some ⟨v,2,none⟩)]) (.int .i64 0)).run prog w=.ok (.pointer (some ⟨v,0,none⟩)) w:=by kernel_rfl
theorem yR(v:Nat)(w:World):(Instr.index 220 (.agg #[.pointer (some ⟨v,0,none⟩),.pointer (some ⟨v,1,none⟩),.pointer (some ⟨v,2,none⟩)]) (.int .i64 1)).run prog w=.ok (.pointer (some ⟨v,1,none⟩)) w:=by kernel_rfl
theorem AO(v:Nat)(w:World):(Instr.index 220 (.agg #[.pointer (some ⟨v,0,none⟩),.pointer (some ⟨v,1,none⟩),.pointer (some ⟨v,2,none⟩)]) (.int .i64 2)).run prog w=.ok (.pointer (some ⟨v,2,none⟩)) w:=by kernel_rfl
theorem aaQ(a b c:Int)(P:ByteArray)(w:World)(ha:0<=a/\a<=999999999)(hb:0<=b/\b<=999999999)(hc:0<=c/\c<=999999999) :
  Calls prog 228 #[.agg #[.int .i64 a,.int .i64 b,.int .i64 c,.string P,.string ⟨#[]⟩],.int .i64 1] w fun e w'=>e=.returned (.agg #[.int .i64 (a+1),.int .i64 0,.int .i64 0,.string ⟨#[48]⟩,.string ⟨#[]⟩])/\w.grownBy w' none:=by
 go_enter func228,ntmps228;go_wp2_with (go_at_call 216;refine(xE _ _ (by simp;omega)).mono ?_);rintro e w1 ⟨rfl,hg⟩;obtain⟨A,hA⟩:=zN (w.heap.size);have HV:Hd (VA A a b c ⟨#[48]⟩ ⟨#[]⟩ w1):=by
  refine VA.grow (w:=(w.alloc (.cells #[.int .i64 a,.int .i64 b,.int .i64 c,.string ⟨#[48]⟩,.string ⟨#[]⟩] 150)).alloc (.cells #[.int .i64 0,.int .i64 0,.int .i64 0,.string ⟨#[]⟩,.string ⟨#[]⟩] 150)) ?_ hg;unfold VA;rw[<-hA,Lib.alloc_old _ _ _ (by simp)];exact heap_alloc_new w _
 have HR:Hd (VA (A+1) 0 0 0 ⟨#[]⟩ ⟨#[]⟩ w1):=by
  refine VA.grow (w:=(w.alloc (.cells #[.int .i64 a,.int .i64 b,.int .i64 c,.string ⟨#[48]⟩,.string ⟨#[]⟩] 150)).alloc (.cells #[.int .i64 0,.int .i64 0,.int .i64 0,.string ⟨#[]⟩,.string ⟨#[]⟩] 150)) ?_ hg;have:=heap_alloc_new (w.alloc (.cells #[.int .i64 a,.int .i64 b,.int .i64 c,.string ⟨#[48]⟩,.string ⟨#[]⟩] 150)) (.cells #[.int .i64 0,.int .i64 0,.int .i64 0,.string ⟨#[]⟩,.string ⟨#[]⟩] 150);unfold VA;rw[<-hA];simpa using this
 have HG:=ae (ag (ak (ak (ai w none) _) _) hg);have HA:Hd (w.heap.size<=A):=by show _<=_;omega
 try rw[hA]
 clear hA hg;go_wp2;go_loopw [9] (fun vi wr=>((vi=.int .i64 0/\VA A a b c ⟨#[48]⟩ ⟨#[]⟩ wr)\/(vi=.int .i64 1/\VA A (a+1) b c ⟨#[48]⟩ ⟨#[]⟩ wr)\/(vi=.int .i64 2/\VA A (a+1) 0 c ⟨#[48]⟩ ⟨#[]⟩ wr)\/(vi=.int .i64 3/\VA A (a+1) 0 0 ⟨#[48]⟩ ⟨#[]⟩ wr))/\VA (A+1) 0 0 0 ⟨#[]⟩ ⟨#[]⟩ wr/\w.grownBy wr none) (fun vi _=>3-(intOf vi).toNat)
 case atStart=>exact⟨Or.inl ⟨rfl,HV.o⟩,HR.o,HG.o⟩
 case round =>
  obtain⟨hs,hr,hg⟩:=hrel;clear HV HR HG;have HR:=ae hr;have HG:=ae hg;clear hr hg
  rcases hs with⟨rfl,hv⟩|⟨rfl,hv⟩|⟨rfl,hv⟩|⟨rfl,hv⟩
  ·have HV:=ae hv;have ix:=xG A wr;have cc:=HV.o.c0;have ff:=HV.o.f 0;clear hv;go_wp2;exact⟨⟨Or.inr (Or.inl ⟨rfl,HV.o.set0 _⟩),HR.o.other (by omega) _ _,tZ HG.o (bI (ai wr (some A)) _ _) HA.o⟩,by simp[intOf]⟩
  ·have HV:=ae hv;have ix:=yR A wr;have cc:=HV.o.c1;have ff:=HV.o.f 1;clear hv;go_wp2;exact⟨⟨Or.inr (Or.inr (Or.inl ⟨rfl,HV.o.set1 _⟩)),HR.o.other (by omega) _ _,tZ HG.o (bI (ai wr (some A)) _ _) HA.o⟩,by simp[intOf]⟩
  ·have HV:=ae hv;have ix:=AO A wr;have cc:=HV.o.c2;have ff:=HV.o.f 2;clear hv;go_wp2;exact⟨⟨Or.inr (Or.inr (Or.inr (⟨rfl,HV.o.set2 _⟩))),HR.o.other (by omega) _ _,tZ HG.o (bI (ai wr (some A)) _ _) HA.o⟩,by simp[intOf]⟩
  ·have HV:=ae hv;have e0:=HV.o.c0;have e1:=HV.o.c1;have e2:=HV.o.c2;have e3:=HV.o.c3;have e4:=HV.o.c4;have r0:=HR.o.c0;have r1:=HR.o.c1;have r2:=HR.o.c2;have r3:=HR.o.c3;have r4:=HR.o.c4;have ff:=HR.o.f;clear hv;go_wp2;have hr:=HR.o;unfold VA at hr;refine bodyPost_ret (results_cell_row rfl _ _ (A+1) 150 #[.int .i64 (a+1),.int .i64 0,.int .i64 0,.string ⟨#[48]⟩,.string ⟨#[]⟩] (0,0) _ rfl ?_ underlying150 rfl (by kernel_rfl)) rfl ⟨rfl,tZ HG.o (bI (bI (bI (bI (bI (ai wr (some (A+1))) _ _) _ _) _ _) _ _) _ _) (by have:=HA.o;omega)⟩;simp[World.setCell,Array.getElem?_modify,hr]
theorem aaR(a b c:Int)(P:ByteArray)(w:World)(ha:0<=a/\a<=999999999)(hb:0<=b/\b<=999999999)(hc:0<=c/\c<=999999999) :
  Calls prog 228 #[.agg #[.int .i64 a,.int .i64 b,.int .i64 c,.string P,.string ⟨#[]⟩],.int .i64 2] w fun e w'=>e=.returned (.agg #[.int .i64 a,.int .i64 (b+1),.int .i64 0,.string ⟨#[48]⟩,.string ⟨#[]⟩])/\w.grownBy w' none:=by
 go_enter func228,ntmps228;go_wp2_with (go_at_call 216;refine(xE _ _ (by simp;omega)).mono ?_);rintro e w1 ⟨rfl,hg⟩;obtain⟨A,hA⟩:=zN (w.heap.size);have HV:Hd (VA A a b c ⟨#[48]⟩ ⟨#[]⟩ w1):=by
  refine VA.grow (w:=(w.alloc (.cells #[.int .i64 a,.int .i64 b,.int .i64 c,.string ⟨#[48]⟩,.string ⟨#[]⟩] 150)).alloc (.cells #[.int .i64 0,.int .i64 0,.int .i64 0,.string ⟨#[]⟩,.string ⟨#[]⟩] 150)) ?_ hg;unfold VA;rw[<-hA,Lib.alloc_old _ _ _ (by simp)];exact heap_alloc_new w _
 have HR:Hd (VA (A+1) 0 0 0 ⟨#[]⟩ ⟨#[]⟩ w1):=by
  refine VA.grow (w:=(w.alloc (.cells #[.int .i64 a,.int .i64 b,.int .i64 c,.string ⟨#[48]⟩,.string ⟨#[]⟩] 150)).alloc (.cells #[.int .i64 0,.int .i64 0,.int .i64 0,.string ⟨#[]⟩,.string ⟨#[]⟩] 150)) ?_ hg;have:=heap_alloc_new (w.alloc (.cells #[.int .i64 a,.int .i64 b,.int .i64 c,.string ⟨#[48]⟩,.string ⟨#[]⟩] 150)) (.cells #[.int .i64 0,.int .i64 0,.int .i64 0,.string ⟨#[]⟩,.string ⟨#[]⟩] 150);unfold VA;rw[<-hA];simpa using this
 have HG:=ae (ag (ak (ak (ai w none) _) _) hg);have HA:Hd (w.heap.size<=A):=by show _<=_;omega
 try rw[hA]
 clear hA hg;go_wp2;go_loopw [9] (fun vi wr=>((vi=.int .i64 0/\VA A a b c ⟨#[48]⟩ ⟨#[]⟩ wr)\/(vi=.int .i64 1/\VA A a b c ⟨#[48]⟩ ⟨#[]⟩ wr)\/(vi=.int .i64 2/\VA A a (b+1) c ⟨#[48]⟩ ⟨#[]⟩ wr)\/(vi=.int .i64 3/\VA A a (b+1) 0 ⟨#[48]⟩ ⟨#[]⟩ wr))/\VA (A+1) 0 0 0 ⟨#[]⟩ ⟨#[]⟩ wr/\w.grownBy wr none) (fun vi _=>3-(intOf vi).toNat)
 case atStart=>exact⟨Or.inl ⟨rfl,HV.o⟩,HR.o,HG.o⟩
 case round =>
  obtain⟨hs,hr,hg⟩:=hrel;clear HV HR HG;have HR:=ae hr;have HG:=ae hg;clear hr hg
  rcases hs with⟨rfl,hv⟩|⟨rfl,hv⟩|⟨rfl,hv⟩|⟨rfl,hv⟩
  ·have HV:=ae hv;have ix:=xG A wr;have cc:=HV.o.c0;have ff:=HV.o.f 0;clear hv;go_wp2;go_roundw
   case rel=>exact⟨Or.inr (Or.inl ⟨rfl,HV.o⟩),HR.o,HG.o⟩
   case measure=>simp[intOf]
  ·have HV:=ae hv;have ix:=yR A wr;have cc:=HV.o.c1;have ff:=HV.o.f 1;clear hv;go_wp2;exact⟨⟨Or.inr (Or.inr (Or.inl ⟨rfl,HV.o.set1 _⟩)),HR.o.other (by omega) _ _,tZ HG.o (bI (ai wr (some A)) _ _) HA.o⟩,by simp[intOf]⟩
  ·have HV:=ae hv;have ix:=AO A wr;have cc:=HV.o.c2;have ff:=HV.o.f 2;clear hv;go_wp2;exact⟨⟨Or.inr (Or.inr (Or.inr (⟨rfl,HV.o.set2 _⟩))),HR.o.other (by omega) _ _,tZ HG.o (bI (ai wr (some A)) _ _) HA.o⟩,by simp[intOf]⟩
  ·have HV:=ae hv;have e0:=HV.o.c0;have e1:=HV.o.c1;have e2:=HV.o.c2;have e3:=HV.o.c3;have e4:=HV.o.c4;have r0:=HR.o.c0;have r1:=HR.o.c1;have r2:=HR.o.c2;have r3:=HR.o.c3;have r4:=HR.o.c4;have ff:=HR.o.f;clear hv;go_wp2;have hr:=HR.o;unfold VA at hr;refine bodyPost_ret (results_cell_row rfl _ _ (A+1) 150 #[.int .i64 a,.int .i64 (b+1),.int .i64 0,.string ⟨#[48]⟩,.string ⟨#[]⟩] (0,0) _ rfl ?_ underlying150 rfl (by kernel_rfl)) rfl ⟨rfl,tZ HG.o (bI (bI (bI (bI (bI (ai wr (some (A+1))) _ _) _ _) _ _) _ _) _ _) (by have:=HA.o;omega)⟩;simp[World.setCell,Array.getElem?_modify,hr]
theorem aaS(a b c:Int)(P:ByteArray)(w:World)(ha:0<=a/\a<=999999999)(hb:0<=b/\b<=999999999)(hc:0<=c/\c<=999999999) :
  Calls prog 228 #[.agg #[.int .i64 a,.int .i64 b,.int .i64 c,.string P,.string ⟨#[]⟩],.int .i64 3] w fun e w'=>e=.returned (.agg #[.int .i64 a,.int .i64 b,.int .i64 (c+1),.string ⟨#[48]⟩,.string ⟨#[]⟩])/\w.grownBy w' none:=by
 go_enter func228,ntmps228;go_wp2_with (go_at_call 216;refine(xE _ _ (by simp;omega)).mono ?_);rintro e w1 ⟨rfl,hg⟩;obtain⟨A,hA⟩:=zN (w.heap.size);have HV:Hd (VA A a b c ⟨#[48]⟩ ⟨#[]⟩ w1):=by
  refine VA.grow (w:=(w.alloc (.cells #[.int .i64 a,.int .i64 b,.int .i64 c,.string ⟨#[48]⟩,.string ⟨#[]⟩] 150)).alloc (.cells #[.int .i64 0,.int .i64 0,.int .i64 0,.string ⟨#[]⟩,.string ⟨#[]⟩] 150)) ?_ hg;unfold VA;rw[<-hA,Lib.alloc_old _ _ _ (by simp)];exact heap_alloc_new w _
 have HR:Hd (VA (A+1) 0 0 0 ⟨#[]⟩ ⟨#[]⟩ w1):=by
  refine VA.grow (w:=(w.alloc (.cells #[.int .i64 a,.int .i64 b,.int .i64 c,.string ⟨#[48]⟩,.string ⟨#[]⟩] 150)).alloc (.cells #[.int .i64 0,.int .i64 0,.int .i64 0,.string ⟨#[]⟩,.string ⟨#[]⟩] 150)) ?_ hg;have:=heap_alloc_new (w.alloc (.cells #[.int .i64 a,.int .i64 b,.int .i64 c,.string ⟨#[48]⟩,.string ⟨#[]⟩] 150)) (.cells #[.int .i64 0,.int .i64 0,.int .i64 0,.string ⟨#[]⟩,.string ⟨#[]⟩] 150);unfold VA;rw[<-hA];simpa using this
 have HG:=ae (ag (ak (ak (ai w none) _) _) hg);have HA:Hd (w.heap.size<=A):=by show _<=_;omega
 try rw[hA]
 clear hA hg;go_wp2;go_loopw [9] (fun vi wr=>((vi=.int .i64 0/\VA A a b c ⟨#[48]⟩ ⟨#[]⟩ wr)\/(vi=.int .i64 1/\VA A a b c ⟨#[48]⟩ ⟨#[]⟩ wr)\/(vi=.int .i64 2/\VA A a b c ⟨#[48]⟩ ⟨#[]⟩ wr)\/(vi=.int .i64 3/\VA A a b (c+1) ⟨#[48]⟩ ⟨#[]⟩ wr))/\VA (A+1) 0 0 0 ⟨#[]⟩ ⟨#[]⟩ wr/\w.grownBy wr none) (fun vi _=>3-(intOf vi).toNat)
 case atStart=>exact⟨Or.inl ⟨rfl,HV.o⟩,HR.o,HG.o⟩
 case round =>
  obtain⟨hs,hr,hg⟩:=hrel;clear HV HR HG;have HR:=ae hr;have HG:=ae hg;clear hr hg
  rcases hs with⟨rfl,hv⟩|⟨rfl,hv⟩|⟨rfl,hv⟩|⟨rfl,hv⟩
  ·have HV:=ae hv;have ix:=xG A wr;have cc:=HV.o.c0;have ff:=HV.o.f 0;clear hv;go_wp2;go_roundw
   case rel=>exact⟨Or.inr (Or.inl ⟨rfl,HV.o⟩),HR.o,HG.o⟩
   case measure=>simp[intOf]
  ·have HV:=ae hv;have ix:=yR A wr;have cc:=HV.o.c1;have ff:=HV.o.f 1;clear hv;go_wp2;go_roundw
   case rel=>exact⟨Or.inr (Or.inr (Or.inl ⟨rfl,HV.o⟩)),HR.o,HG.o⟩
   case measure=>simp[intOf]
  ·have HV:=ae hv;have ix:=AO A wr;have cc:=HV.o.c2;have ff:=HV.o.f 2;clear hv;go_wp2;exact⟨⟨Or.inr (Or.inr (Or.inr (⟨rfl,HV.o.set2 _⟩))),HR.o.other (by omega) _ _,tZ HG.o (bI (ai wr (some A)) _ _) HA.o⟩,by simp[intOf]⟩
  ·have HV:=ae hv;have e0:=HV.o.c0;have e1:=HV.o.c1;have e2:=HV.o.c2;have e3:=HV.o.c3;have e4:=HV.o.c4;have r0:=HR.o.c0;have r1:=HR.o.c1;have r2:=HR.o.c2;have r3:=HR.o.c3;have r4:=HR.o.c4;have ff:=HR.o.f;clear hv;go_wp2;have hr:=HR.o;unfold VA at hr;refine bodyPost_ret (results_cell_row rfl _ _ (A+1) 150 #[.int .i64 a,.int .i64 b,.int .i64 (c+1),.string ⟨#[48]⟩,.string ⟨#[]⟩] (0,0) _ rfl ?_ underlying150 rfl (by kernel_rfl)) rfl ⟨rfl,tZ HG.o (bI (bI (bI (bI (bI (ai wr (some (A+1))) _ _) _ _) _ _) _ _) _ _) (by have:=HA.o;omega)⟩;simp[World.setCell,Array.getElem?_modify,hr]
open Go.RowKit
def PB(A:Nat)(a b c:Int)(P:ByteArray)(n:Int)(w:World):Prop:=w.heap[A]?=some (.cells #[.int .i64 a,.int .i64 b,.int .i64 c,.string P,.string ⟨#[]⟩,.int .i64 n] 247 (0,0))
theorem PB.cells{A:Nat}{a b c:Int}{P:ByteArray}{n:Int}{w:World}(h:PB A a b c P n w):w.cell? ⟨A,0,none⟩=some (.int .i64 a)/\w.cell? ⟨A,1,none⟩=some (.int .i64 b)/\w.cell? ⟨A,2,none⟩=some (.int .i64 c)/\w.cell? ⟨A,3,none⟩=some (.string P)/\w.cell? ⟨A,4,none⟩=some (.string ⟨#[]⟩)/\w.cell? ⟨A,5,none⟩=some (.int .i64 n) :=
 ⟨by rw[ah h];rfl,by rw[ah h];rfl,by rw[ah h];rfl,by rw[ah h];rfl,by rw[ah h];rfl,by rw[ah h];rfl⟩
theorem PB.grow{A:Nat}{a b c:Int}{P:ByteArray}{n:Int}{w w':World}(h:PB A a b c P n w)(hg:w.grownBy w' none):PB A a b c P n w':=by
 unfold PB at h ⊢;rw[hg.block A ((aC h)) (by simp)];exact h
def SZ(B:Nat)(w:World):Prop:=w.heap[B]?=some (.cells #[.int .i64 0,.int .i64 0,.int .i64 0,.string ⟨#[]⟩,.string ⟨#[]⟩,.int .i64 0,.int .i64 0,.int .i64 0,.string ⟨#[]⟩,.string ⟨#[]⟩,.bool false] 203 (0,0))
theorem SZ.cells{B:Nat}{w:World}(h:SZ B w):w.cell? ⟨B,0,none⟩=some (.int .i64 0)/\w.cell? ⟨B,1,none⟩=some (.int .i64 0)/\w.cell? ⟨B,2,none⟩=some (.int .i64 0)/\w.cell? ⟨B,3,none⟩=some (.string ⟨#[]⟩)/\w.cell? ⟨B,4,none⟩=some (.string ⟨#[]⟩)/\w.cell? ⟨B,5,none⟩=some (.int .i64 0)/\w.cell? ⟨B,6,none⟩=some (.int .i64 0)/\w.cell? ⟨B,7,none⟩=some (.int .i64 0)/\w.cell? ⟨B,8,none⟩=some (.string ⟨#[]⟩)/\w.cell? ⟨B,9,none⟩=some (.string ⟨#[]⟩)/\w.cell? ⟨B,10,none⟩=some (.bool false) :=
 ⟨by rw[ah h];rfl,by rw[ah h];rfl,by rw[ah h];rfl,by rw[ah h];rfl,by rw[ah h];rfl,by rw[ah h];rfl,by rw[ah h];rfl,by rw[ah h];rfl,by rw[ah h];rfl,by rw[ah h];rfl,by rw[ah h];rfl⟩
theorem SZ.f{B:Nat}{w:World}(h:SZ B w)(o:Nat):w.frozen? ⟨B,o,none⟩=false:=Lib.frozen_of_heap h o
theorem SZ.grow{B:Nat}{w w':World}(h:SZ B w)(hg:w.grownBy w' none):SZ B w':=by
 unfold SZ at h ⊢;rw[hg.block B ((aC h)) (by simp)];exact h
theorem nR{w x:World}{B:Nat}(h:w.grownBy x none)(hB:w.heap.size<=B){o:Nat}{v:Value}:w.grownBy (x.setCell ⟨B,o,none⟩ v) none:=by
 refine⟨h.os,h.tape,h.output,by simpa [World.setCell] using h.size,fun k hk hn=>?_⟩;rw[<-h.block k hk hn];exact heap_setCell_other x _ k v (by simp;omega)
theorem lh(w:World)(p:Addr):w.drew.cell? p=w.cell? p:=rfl
theorem cell_far{A B:Nat}(h:A≠B)(w:World)(o:Nat)(x:Value)(k:Nat):(w.setCell ⟨B,o,none⟩ x).cell? ⟨A,k,none⟩=w.cell? ⟨A,k,none⟩:=by
 unfold World.cell?;rw[heap_setCell_other w _ A x (by simpa using h)]
theorem Ep{p0 p1 p2 p3 p4:Addr}{c0 c1 c2 c3 c4:Value}{w w':World}(hg:w.grownBy w' none)(h:w.cell? p0=some c0/\w.cell? p1=some c1/\w.cell? p2=some c2/\w.cell? p3=some c3/\w.cell? p4=some c4):w'.cell? p0=some c0/\w'.cell? p1=some c1/\w'.cell? p2=some c2/\w'.cell? p3=some c3/\w'.cell? p4=some c4:=by
 obtain⟨h0,h1,h2,h3,h4⟩:=h;exact⟨hg.cell h0 (by simp),hg.cell h1 (by simp),hg.cell h2 (by simp),hg.cell h3 (by simp),hg.cell h4 (by simp)⟩
theorem aaT(a b c:Int)(n:Int)(P:ByteArray)(w:World)(q:¬a=0) :
  Calls prog 214 #[.agg #[.int .i64 a,.int .i64 b,.int .i64 c,.string P,.string ⟨#[]⟩,.int .i64 n]] w fun e w'=>e=.returned (.int .i64 1)/\w.grownBy w' none:=by
 go_enter func214,ntmps214;go_wp2_with (go_at_call 216;refine(xE _ _ (by simp)).mono ?_);rintro e w1 ⟨rfl,hg⟩;obtain⟨A,hA⟩:=zN (w.heap.size);have HV:Hd (PB A a b c P n w1):=by
  refine PB.grow (w:=w.alloc (.cells #[.int .i64 a,.int .i64 b,.int .i64 c,.string P,.string ⟨#[]⟩,.int .i64 n] 247)) ?_ hg;unfold PB;rw[<-hA];exact heap_alloc_new w _
 have HG:=ae (ag (ak (ai w none) _) hg)
 try rw[hA]
 clear hA hg;go_wp2;go_loopw [7] (fun vi wr=>(vi=.int .i64 0)/\PB A a b c P n wr/\w.grownBy wr none) (fun vi _=>3-(intOf vi).toNat)
 case atStart=>exact⟨rfl,HV.o,HG.o⟩
 case round =>
  obtain⟨hs,hv,hg⟩:=hrel;clear HV HG;have HV:=ae hv;have HG:=ae hg;clear hv hg;obtain⟨e0,e1,e2,e3,e4,e5⟩:=HV.o.cells
  rcases hs with rfl
  ·have ix:=xG A wr;go_wp2;go_ret;exact⟨rfl,HG.o⟩
theorem aaU(b c:Int)(n:Int)(P:ByteArray)(w:World)(q:¬b=0) :
  Calls prog 214 #[.agg #[.int .i64 0,.int .i64 b,.int .i64 c,.string P,.string ⟨#[]⟩,.int .i64 n]] w fun e w'=>e=.returned (.int .i64 2)/\w.grownBy w' none:=by
 go_enter func214,ntmps214;go_wp2_with (go_at_call 216;refine(xE _ _ (by simp)).mono ?_);rintro e w1 ⟨rfl,hg⟩;obtain⟨A,hA⟩:=zN (w.heap.size);have HV:Hd (PB A 0 b c P n w1):=by
  refine PB.grow (w:=w.alloc (.cells #[.int .i64 0,.int .i64 b,.int .i64 c,.string P,.string ⟨#[]⟩,.int .i64 n] 247)) ?_ hg;unfold PB;rw[<-hA];exact heap_alloc_new w _
 have HG:=ae (ag (ak (ai w none) _) hg)
 try rw[hA]
 clear hA hg;go_wp2;go_loopw [7] (fun vi wr=>(vi=.int .i64 0\/vi=.int .i64 1)/\PB A 0 b c P n wr/\w.grownBy wr none) (fun vi _=>3-(intOf vi).toNat)
 case atStart=>exact⟨Or.inl rfl,HV.o,HG.o⟩
 case round =>
  obtain⟨hs,hv,hg⟩:=hrel;clear HV HG;have HV:=ae hv;have HG:=ae hg;clear hv hg;obtain⟨e0,e1,e2,e3,e4,e5⟩:=HV.o.cells
  rcases hs with rfl|rfl
  ·have ix:=xG A wr;go_wp2;go_roundw
   case rel=>exact⟨Or.inr (rfl),HV.o,HG.o⟩
   case measure=>simp[intOf]
  ·have ix:=yR A wr;go_wp2;go_ret;exact⟨rfl,HG.o⟩
theorem aaV(c:Int)(n:Int)(P:ByteArray)(w:World)(q:¬c=0) :
  Calls prog 214 #[.agg #[.int .i64 0,.int .i64 0,.int .i64 c,.string P,.string ⟨#[]⟩,.int .i64 n]] w fun e w'=>e=.returned (.int .i64 3)/\w.grownBy w' none:=by
 go_enter func214,ntmps214;go_wp2_with (go_at_call 216;refine(xE _ _ (by simp)).mono ?_);rintro e w1 ⟨rfl,hg⟩;obtain⟨A,hA⟩:=zN (w.heap.size);have HV:Hd (PB A 0 0 c P n w1):=by
  refine PB.grow (w:=w.alloc (.cells #[.int .i64 0,.int .i64 0,.int .i64 c,.string P,.string ⟨#[]⟩,.int .i64 n] 247)) ?_ hg;unfold PB;rw[<-hA];exact heap_alloc_new w _
 have HG:=ae (ag (ak (ai w none) _) hg)
 try rw[hA]
 clear hA hg;go_wp2;go_loopw [7] (fun vi wr=>(vi=.int .i64 0\/vi=.int .i64 1\/vi=.int .i64 2)/\PB A 0 0 c P n wr/\w.grownBy wr none) (fun vi _=>3-(intOf vi).toNat)
 case atStart=>exact⟨Or.inl rfl,HV.o,HG.o⟩
 case round =>
  obtain⟨hs,hv,hg⟩:=hrel;clear HV HG;have HV:=ae hv;have HG:=ae hg;clear hv hg;obtain⟨e0,e1,e2,e3,e4,e5⟩:=HV.o.cells
  rcases hs with rfl|rfl|rfl
  ·have ix:=xG A wr;go_wp2;go_roundw
   case rel=>exact⟨Or.inr (Or.inl rfl),HV.o,HG.o⟩
   case measure=>simp[intOf]
  ·have ix:=yR A wr;go_wp2;go_roundw
   case rel=>exact⟨Or.inr (Or.inr (rfl)),HV.o,HG.o⟩
   case measure=>simp[intOf]
  ·have ix:=AO A wr;go_wp2;go_ret;exact⟨rfl,HG.o⟩
theorem aaW(n:Int)(P:ByteArray)(w:World) :
  Calls prog 214 #[.agg #[.int .i64 0,.int .i64 0,.int .i64 0,.string P,.string ⟨#[]⟩,.int .i64 n]] w fun e w'=>e=.returned (.int .i64 n)/\w.grownBy w' none:=by
 go_enter func214,ntmps214;go_wp2_with (go_at_call 216;refine(xE _ _ (by simp)).mono ?_);rintro e w1 ⟨rfl,hg⟩;obtain⟨A,hA⟩:=zN (w.heap.size);have HV:Hd (PB A 0 0 0 P n w1):=by
  refine PB.grow (w:=w.alloc (.cells #[.int .i64 0,.int .i64 0,.int .i64 0,.string P,.string ⟨#[]⟩,.int .i64 n] 247)) ?_ hg;unfold PB;rw[<-hA];exact heap_alloc_new w _
 have HG:=ae (ag (ak (ai w none) _) hg)
 try rw[hA]
 clear hA hg;go_wp2;go_loopw [7] (fun vi wr=>(vi=.int .i64 0\/vi=.int .i64 1\/vi=.int .i64 2\/vi=.int .i64 3)/\PB A 0 0 0 P n wr/\w.grownBy wr none) (fun vi _=>3-(intOf vi).toNat)
 case atStart=>exact⟨Or.inl rfl,HV.o,HG.o⟩
 case round =>
  obtain⟨hs,hv,hg⟩:=hrel;clear HV HG;have HV:=ae hv;have HG:=ae hg;clear hv hg;obtain⟨e0,e1,e2,e3,e4,e5⟩:=HV.o.cells
  rcases hs with rfl|rfl|rfl|rfl
  ·have ix:=xG A wr;go_wp2;go_roundw
   case rel=>exact⟨Or.inr (Or.inl rfl),HV.o,HG.o⟩
   case measure=>simp[intOf]
  ·have ix:=yR A wr;go_wp2;go_roundw
   case rel=>exact⟨Or.inr (Or.inr (Or.inl rfl)),HV.o,HG.o⟩
   case measure=>simp[intOf]
  ·have ix:=AO A wr;go_wp2;go_roundw
   case rel=>exact⟨Or.inr (Or.inr (Or.inr (rfl))),HV.o,HG.o⟩
   case measure=>simp[intOf]
  ·go_wp2;go_ret;exact⟨rfl,HG.o⟩
theorem aaX(a b c n:Int)(P:ByteArray)(w:World)(ha:0<=a/\a<=999999999)(hb:0<=b/\b<=999999999)(hc:0<=c/\c<=999999999) :
  Calls prog 213 #[.agg #[.int .i64 a,.int .i64 b,.int .i64 c,.string P,.string ⟨#[]⟩,.int .i64 n],.int .i64 0] w fun e w'=>e=.returned (.agg #[.int .i64 a,.int .i64 b,.int .i64 c,.string P,.string ⟨#[]⟩,.int .i64 0,.int .i64 0,.int .i64 0,.string ⟨#[]⟩,.string ⟨#[]⟩,.bool true])/\w.grownBy w' none:=by
 clear ha hb hc;go_enter func213,ntmps213;go_wp2;refine bodyPost_ret (results_cell_row rfl _ _ (w.heap.size+1) 203 #[.int .i64 a,.int .i64 b,.int .i64 c,.string P,.string ⟨#[]⟩,.int .i64 0,.int .i64 0,.int .i64 0,.string ⟨#[]⟩,.string ⟨#[]⟩,.bool true] (0,0) _ rfl ?_ underlying203 rfl (by kernel_rfl)) rfl ⟨rfl,ak (ak (ai w none) _) _⟩;have:=heap_alloc_new (w.alloc (.cells #[.int .i64 a,.int .i64 b,.int .i64 c,.string P,.string ⟨#[]⟩,.int .i64 n] 247)) (.cells #[.int .i64 a,.int .i64 b,.int .i64 c,.string P,.string ⟨#[]⟩,.int .i64 0,.int .i64 0,.int .i64 0,.string ⟨#[]⟩,.string ⟨#[]⟩,.bool true] 203);rw[show(w.alloc (.cells #[.int .i64 a,.int .i64 b,.int .i64 c,.string P,.string ⟨#[]⟩,.int .i64 n] 247)).heap.size=w.heap.size+1 by simp]at this;exact this
theorem aaY(a b c n:Int)(P:ByteArray)(w:World)(ha:0<=a/\a<=999999999)(hb:0<=b/\b<=999999999)(hc:0<=c/\c<=999999999) :
  Calls prog 213 #[.agg #[.int .i64 a,.int .i64 b,.int .i64 c,.string P,.string ⟨#[]⟩,.int .i64 n],.int .i64 1] w fun e w'=>e=.returned (.agg #[.int .i64 a,.int .i64 b,.int .i64 c,.string P,.string ⟨#[]⟩,.int .i64 (a+1),.int .i64 0,.int .i64 0,.string ⟨#[48]⟩,.string ⟨#[]⟩,.bool false])/\w.grownBy w' none:=by
 have CB:=ae (fun w=>aaQ a b c P w ha hb hc);clear ha hb hc;go_enter func213,ntmps213;go_wp2_with (fail);obtain⟨A,hA⟩:=zN (w.heap.size);obtain⟨W,hW⟩:=zN ((w.alloc (.cells #[.int .i64 a,.int .i64 b,.int .i64 c,.string P,.string ⟨#[]⟩,.int .i64 n] 247)).alloc (.cells #[.int .i64 0,.int .i64 0,.int .i64 0,.string ⟨#[]⟩,.string ⟨#[]⟩,.int .i64 0,.int .i64 0,.int .i64 0,.string ⟨#[]⟩,.string ⟨#[]⟩,.bool false] 203));have HV:Hd (PB A a b c P n W):=by
  show PB A a b c P n W;unfold PB;rw[<-hW,<-hA,Lib.alloc_old _ _ _ (by simp)];exact heap_alloc_new w _
 have HZ:Hd (SZ (A+1) W):=by
  show SZ (A+1) W;unfold SZ;have:=heap_alloc_new (w.alloc (.cells #[.int .i64 a,.int .i64 b,.int .i64 c,.string P,.string ⟨#[]⟩,.int .i64 n] 247)) (.cells #[.int .i64 0,.int .i64 0,.int .i64 0,.string ⟨#[]⟩,.string ⟨#[]⟩,.int .i64 0,.int .i64 0,.int .i64 0,.string ⟨#[]⟩,.string ⟨#[]⟩,.bool false] 203);rw[<-hW,<-hA];simpa using this
 have HG:Hd (w.grownBy W none):=by show w.grownBy W none;rw[<-hW];exact ak (ak (ai w none) _) _
 have HB:Hd (w.heap.size<=A+1):=by show _<=_;omega
 try rw[hW]
 try rw[hA]
 clear hW hA;obtain⟨e0,e1,e2,e3,e4,e5⟩:=HV.o.cells
 go_region_held3 (fun w'=>w'.cell? ⟨A,0,none⟩=some (.int .i64 a)/\w'.cell? ⟨A,1,none⟩=some (.int .i64 b)/\w'.cell? ⟨A,2,none⟩=some (.int .i64 c)/\w'.cell? ⟨A,3,none⟩=some (.string P)/\w'.cell? ⟨A,4,none⟩=some (.string ⟨#[]⟩)) ((first|(simp only[lh,cell_far (Nat.ne_of_lt (Nat.lt_succ_self A))];assumption)|(simp only[lh];exact⟨e0,e1,e2,e3,e4⟩)|exact Ep (by assumption) (by assumption))) (first|(go_at_call 228;refine(CB.o _).mono ?_;rintro e w1 ⟨rfl,hg1⟩;have hz1:=HZ.o.grow (dF hg1);obtain⟨z0,z1,z2,z3,z4,z5,z6,z7,z8,z9,z10⟩:=hz1.cells;have zf:=hz1.f))
 have HZ1:=ae hz1;have bD:=ae (ag HG.o (dF hg1));clear z0 z1 z2 z3 z4 z5 z6 z7 z8 z9 z10 zf hz1 hg1 e0 e1 e2 e3 e4 e5;go_wp2;have hrw:=HZ1.o;unfold SZ at hrw;have hb:=HB.o;refine bodyPost_ret (results_cell_row rfl _ _ (A+1) 203 #[.int .i64 a,.int .i64 b,.int .i64 c,.string P,.string ⟨#[]⟩,.int .i64 (a+1),.int .i64 0,.int .i64 0,.string ⟨#[48]⟩,.string ⟨#[]⟩,.bool false] (0,0) _ rfl ?_ underlying203 rfl (by kernel_rfl)) rfl ⟨rfl,by repeat (first|refine nR ?_ hb|exact bD.o)⟩;simp[World.setCell,Array.getElem?_modify,hrw]
theorem aaZ(a b c n:Int)(P:ByteArray)(w:World)(ha:0<=a/\a<=999999999)(hb:0<=b/\b<=999999999)(hc:0<=c/\c<=999999999) :
  Calls prog 213 #[.agg #[.int .i64 a,.int .i64 b,.int .i64 c,.string P,.string ⟨#[]⟩,.int .i64 n],.int .i64 2] w fun e w'=>e=.returned (.agg #[.int .i64 a,.int .i64 b,.int .i64 c,.string P,.string ⟨#[]⟩,.int .i64 a,.int .i64 (b+1),.int .i64 0,.string ⟨#[48]⟩,.string ⟨#[]⟩,.bool false])/\w.grownBy w' none:=by
 have CB:=ae (fun w=>aaR a b c P w ha hb hc);clear ha hb hc;go_enter func213,ntmps213;go_wp2_with (fail);obtain⟨A,hA⟩:=zN (w.heap.size);obtain⟨W,hW⟩:=zN ((w.alloc (.cells #[.int .i64 a,.int .i64 b,.int .i64 c,.string P,.string ⟨#[]⟩,.int .i64 n] 247)).alloc (.cells #[.int .i64 0,.int .i64 0,.int .i64 0,.string ⟨#[]⟩,.string ⟨#[]⟩,.int .i64 0,.int .i64 0,.int .i64 0,.string ⟨#[]⟩,.string ⟨#[]⟩,.bool false] 203));have HV:Hd (PB A a b c P n W):=by
  show PB A a b c P n W;unfold PB;rw[<-hW,<-hA,Lib.alloc_old _ _ _ (by simp)];exact heap_alloc_new w _
 have HZ:Hd (SZ (A+1) W):=by
  show SZ (A+1) W;unfold SZ;have:=heap_alloc_new (w.alloc (.cells #[.int .i64 a,.int .i64 b,.int .i64 c,.string P,.string ⟨#[]⟩,.int .i64 n] 247)) (.cells #[.int .i64 0,.int .i64 0,.int .i64 0,.string ⟨#[]⟩,.string ⟨#[]⟩,.int .i64 0,.int .i64 0,.int .i64 0,.string ⟨#[]⟩,.string ⟨#[]⟩,.bool false] 203);rw[<-hW,<-hA];simpa using this
 have HG:Hd (w.grownBy W none):=by show w.grownBy W none;rw[<-hW];exact ak (ak (ai w none) _) _
 have HB:Hd (w.heap.size<=A+1):=by show _<=_;omega
 try rw[hW]
 try rw[hA]
 clear hW hA;obtain⟨e0,e1,e2,e3,e4,e5⟩:=HV.o.cells
 go_region_held3 (fun w'=>w'.cell? ⟨A,0,none⟩=some (.int .i64 a)/\w'.cell? ⟨A,1,none⟩=some (.int .i64 b)/\w'.cell? ⟨A,2,none⟩=some (.int .i64 c)/\w'.cell? ⟨A,3,none⟩=some (.string P)/\w'.cell? ⟨A,4,none⟩=some (.string ⟨#[]⟩)) ((first|(simp only[lh,cell_far (Nat.ne_of_lt (Nat.lt_succ_self A))];assumption)|(simp only[lh];exact⟨e0,e1,e2,e3,e4⟩)|exact Ep (by assumption) (by assumption))) (first|(go_at_call 228;refine(CB.o _).mono ?_;rintro e w1 ⟨rfl,hg1⟩;have hz1:=HZ.o.grow (dF hg1);obtain⟨z0,z1,z2,z3,z4,z5,z6,z7,z8,z9,z10⟩:=hz1.cells;have zf:=hz1.f))
 have HZ1:=ae hz1;have bD:=ae (ag HG.o (dF hg1));clear z0 z1 z2 z3 z4 z5 z6 z7 z8 z9 z10 zf hz1 hg1 e0 e1 e2 e3 e4 e5;go_wp2;have hrw:=HZ1.o;unfold SZ at hrw;have hb:=HB.o;refine bodyPost_ret (results_cell_row rfl _ _ (A+1) 203 #[.int .i64 a,.int .i64 b,.int .i64 c,.string P,.string ⟨#[]⟩,.int .i64 a,.int .i64 (b+1),.int .i64 0,.string ⟨#[48]⟩,.string ⟨#[]⟩,.bool false] (0,0) _ rfl ?_ underlying203 rfl (by kernel_rfl)) rfl ⟨rfl,by repeat (first|refine nR ?_ hb|exact bD.o)⟩;simp[World.setCell,Array.getElem?_modify,hrw]
theorem aa0(a b c n:Int)(P:ByteArray)(w:World)(ha:0<=a/\a<=999999999)(hb:0<=b/\b<=999999999)(hc:0<=c/\c<=999999999) :
  Calls prog 213 #[.agg #[.int .i64 a,.int .i64 b,.int .i64 c,.string P,.string ⟨#[]⟩,.int .i64 n],.int .i64 3] w fun e w'=>e=.returned (.agg #[.int .i64 a,.int .i64 b,.int .i64 c,.string P,.string ⟨#[]⟩,.int .i64 a,.int .i64 b,.int .i64 (c+1),.string ⟨#[48]⟩,.string ⟨#[]⟩,.bool false])/\w.grownBy w' none:=by
 have CB:=ae (fun w=>aaS a b c P w ha hb hc);clear ha hb hc;go_enter func213,ntmps213;go_wp2_with (fail);obtain⟨A,hA⟩:=zN (w.heap.size);obtain⟨W,hW⟩:=zN ((w.alloc (.cells #[.int .i64 a,.int .i64 b,.int .i64 c,.string P,.string ⟨#[]⟩,.int .i64 n] 247)).alloc (.cells #[.int .i64 0,.int .i64 0,.int .i64 0,.string ⟨#[]⟩,.string ⟨#[]⟩,.int .i64 0,.int .i64 0,.int .i64 0,.string ⟨#[]⟩,.string ⟨#[]⟩,.bool false] 203));have HV:Hd (PB A a b c P n W):=by
  show PB A a b c P n W;unfold PB;rw[<-hW,<-hA,Lib.alloc_old _ _ _ (by simp)];exact heap_alloc_new w _
 have HZ:Hd (SZ (A+1) W):=by
  show SZ (A+1) W;unfold SZ;have:=heap_alloc_new (w.alloc (.cells #[.int .i64 a,.int .i64 b,.int .i64 c,.string P,.string ⟨#[]⟩,.int .i64 n] 247)) (.cells #[.int .i64 0,.int .i64 0,.int .i64 0,.string ⟨#[]⟩,.string ⟨#[]⟩,.int .i64 0,.int .i64 0,.int .i64 0,.string ⟨#[]⟩,.string ⟨#[]⟩,.bool false] 203);rw[<-hW,<-hA];simpa using this
 have HG:Hd (w.grownBy W none):=by show w.grownBy W none;rw[<-hW];exact ak (ak (ai w none) _) _
 have HB:Hd (w.heap.size<=A+1):=by show _<=_;omega
 try rw[hW]
 try rw[hA]
 clear hW hA;obtain⟨e0,e1,e2,e3,e4,e5⟩:=HV.o.cells
 go_region_held3 (fun w'=>w'.cell? ⟨A,0,none⟩=some (.int .i64 a)/\w'.cell? ⟨A,1,none⟩=some (.int .i64 b)/\w'.cell? ⟨A,2,none⟩=some (.int .i64 c)/\w'.cell? ⟨A,3,none⟩=some (.string P)/\w'.cell? ⟨A,4,none⟩=some (.string ⟨#[]⟩)) ((first|(simp only[lh,cell_far (Nat.ne_of_lt (Nat.lt_succ_self A))];assumption)|(simp only[lh];exact⟨e0,e1,e2,e3,e4⟩)|exact Ep (by assumption) (by assumption))) (first|(go_at_call 228;refine(CB.o _).mono ?_;rintro e w1 ⟨rfl,hg1⟩;have hz1:=HZ.o.grow (dF hg1);obtain⟨z0,z1,z2,z3,z4,z5,z6,z7,z8,z9,z10⟩:=hz1.cells;have zf:=hz1.f))
 have HZ1:=ae hz1;have bD:=ae (ag HG.o (dF hg1));clear z0 z1 z2 z3 z4 z5 z6 z7 z8 z9 z10 zf hz1 hg1 e0 e1 e2 e3 e4 e5;go_wp2;have hrw:=HZ1.o;unfold SZ at hrw;have hb:=HB.o;refine bodyPost_ret (results_cell_row rfl _ _ (A+1) 203 #[.int .i64 a,.int .i64 b,.int .i64 c,.string P,.string ⟨#[]⟩,.int .i64 a,.int .i64 b,.int .i64 (c+1),.string ⟨#[48]⟩,.string ⟨#[]⟩,.bool false] (0,0) _ rfl ?_ underlying203 rfl (by kernel_rfl)) rfl ⟨rfl,by repeat (first|refine nR ?_ hb|exact bD.o)⟩;simp[World.setCell,Array.getElem?_modify,hrw]
open Go.RowKit
theorem AP(w:World) :
  Calls prog 168 #[] w fun e w'=>e=.returned (.agg #[.int .i64 0,.int .i64 0,.int .i64 0,.string ⟨#[48]⟩,.string ⟨#[]⟩])/\w.grownBy w' none:=by
 go_enter func168,ntmps168;go_wp2;refine bodyPost_ret (results_cell_row rfl _ _ w.heap.size 150 #[.int .i64 0,.int .i64 0,.int .i64 0,.string ⟨#[48]⟩,.string ⟨#[]⟩] (0,0) _ rfl ?_ underlying150 rfl (by kernel_rfl)) rfl ⟨rfl,ak (ai w none) _⟩;exact heap_alloc_new w _
theorem Rq(w:World)(o1 o2 o3:Obj):(((w.alloc o1).alloc o2).alloc o3).heap[w.heap.size+2]?=some o3:=by
 have:=heap_alloc_new ((w.alloc o1).alloc o2) o3;simpa using this
theorem nT(w:World)(o1 o2:Obj):((w.alloc o1).alloc o2).heap[w.heap.size+1]?=some o2:=by
 have:=heap_alloc_new (w.alloc o1) o2;simpa using this
theorem aa1(a b c n x1 x2 x3 y1 y2 y3:Int)(P x4 x5 y4 y5:ByteArray)(o:Bool)(w:World)(CN:∀w,Calls prog 211 #[.agg #[.int .i64 a,.int .i64 b,.int .i64 c,.string P,.string ⟨#[]⟩,.int .i64 n]] w fun e w'=>e=.returned (.agg #[.int .i64 x1,.int .i64 x2,.int .i64 x3,.string x4,.string x5,.int .i64 y1,.int .i64 y2,.int .i64 y3,.string y4,.string y5,.bool o])/\w.grownBy w' none) :
  Calls prog 208 #[.agg #[.int .i64 a,.int .i64 b,.int .i64 c,.string P,.string ⟨#[]⟩,.int .i64 n]] w fun e w'=>e=.returned (.agg #[.int .i64 0,.int .i64 0,.int .i64 0,.string ⟨#[48]⟩,.string ⟨#[]⟩,.int .i64 y1,.int .i64 y2,.int .i64 y3,.string y4,.string y5,.bool o])/\w.grownBy w' none:=by
 have HN:=ae CN;have HL:=ae AP;clear CN;go_enter func208,ntmps208;go_wp2_with (go_at_call 211;refine(HN.o _).mono ?_);rintro e w1 ⟨rfl,hg⟩;obtain⟨A,hA⟩:=zN (w.heap.size);have HV:Hd (PB A a b c P n w1):=by
  refine PB.grow (w:=(w.alloc (.cells #[.int .i64 a,.int .i64 b,.int .i64 c,.string P,.string ⟨#[]⟩,.int .i64 n] 247)).alloc (.cells #[.int .i64 0,.int .i64 0,.int .i64 0,.string ⟨#[]⟩,.string ⟨#[]⟩,.int .i64 0,.int .i64 0,.int .i64 0,.string ⟨#[]⟩,.string ⟨#[]⟩,.bool false] 203)) ?_ hg;unfold PB;rw[<-hA,Lib.alloc_old _ _ _ (by simp)];exact heap_alloc_new w _
 have HZ:Hd (SZ (A+1) w1):=by
  refine SZ.grow (w:=(w.alloc (.cells #[.int .i64 a,.int .i64 b,.int .i64 c,.string P,.string ⟨#[]⟩,.int .i64 n] 247)).alloc (.cells #[.int .i64 0,.int .i64 0,.int .i64 0,.string ⟨#[]⟩,.string ⟨#[]⟩,.int .i64 0,.int .i64 0,.int .i64 0,.string ⟨#[]⟩,.string ⟨#[]⟩,.bool false] 203)) ?_ hg;unfold SZ;rw[<-hA];exact nT w _ _
 have HG:=ae (ag (ak (ak (ai w none) _) _) hg);have HB:Hd (w.heap.size<=A/\A+1<w1.heap.size):=⟨Nat.le_of_eq hA,(aC HZ.o)⟩
 try rw[hA]
 clear hA hg;go_wp2_with (fail);obtain⟨C,hC⟩:=zN (w1.heap.size);obtain⟨W,hW⟩:=zN (w1.alloc (.cells #[.int .i64 x1,.int .i64 x2,.int .i64 x3,.string x4,.string x5,.int .i64 y1,.int .i64 y2,.int .i64 y3,.string y4,.string y5,.bool o] 203));have hgW:w1.grownBy W none:=by rw[<-hW];exact ak (ai w1 none) _
 have AQ:=ae (HV.o.grow hgW);have fQ:=ae (HZ.o.grow hgW);have bU:Hd (W.heap[C]?=some (.cells #[.int .i64 x1,.int .i64 x2,.int .i64 x3,.string x4,.string x5,.int .i64 y1,.int .i64 y2,.int .i64 y3,.string y4,.string y5,.bool o] 203 (0,0))):=by show _=_;rw[<-hW,<-hC];exact heap_alloc_new w1 _
 have bD:=ae (ag HG.o hgW);have oL:Hd (w.heap.size<=A/\A+1<C/\C<W.heap.size):=by refine⟨HB.o.1,?_,(aC bU.o)⟩;rw[<-hC];exact HB.o.2
 clear hgW HV HZ HG HB
 try rw[hW]
 try rw[hC]
 clear hW hC;go_wp2_with (go_at_call 168;refine(HL.o _).mono ?_);rintro e w2 ⟨rfl,hg⟩;have HZ2:=ae (fQ.o.grow hg);have HC2:Hd (w2.heap[C]?=some (.cells #[.int .i64 x1,.int .i64 x2,.int .i64 x3,.string x4,.string x5,.int .i64 y1,.int .i64 y2,.int .i64 y3,.string y4,.string y5,.bool o] 203 (0,0))):=by show _=_;rw[hg.block C oL.o.2.2 (by simp)];exact bU.o
 have HG2:=ae (ag bD.o hg);clear hg AQ fQ bU bD;have c0:w2.cell? ⟨C,0,none⟩=some (.int .i64 x1):=by rw[ah HC2.o];rfl
 have c1:w2.cell? ⟨C,1,none⟩=some (.int .i64 x2):=by rw[ah HC2.o];rfl
 have c2:w2.cell? ⟨C,2,none⟩=some (.int .i64 x3):=by rw[ah HC2.o];rfl
 have c3:w2.cell? ⟨C,3,none⟩=some (.string x4):=by rw[ah HC2.o];rfl
 have c4:w2.cell? ⟨C,4,none⟩=some (.string x5):=by rw[ah HC2.o];rfl
 have c5:w2.cell? ⟨C,5,none⟩=some (.int .i64 y1):=by rw[ah HC2.o];rfl
 have c6:w2.cell? ⟨C,6,none⟩=some (.int .i64 y2):=by rw[ah HC2.o];rfl
 have c7:w2.cell? ⟨C,7,none⟩=some (.int .i64 y3):=by rw[ah HC2.o];rfl
 have c8:w2.cell? ⟨C,8,none⟩=some (.string y4):=by rw[ah HC2.o];rfl
 have c9:w2.cell? ⟨C,9,none⟩=some (.string y5):=by rw[ah HC2.o];rfl
 have c10:w2.cell? ⟨C,10,none⟩=some (.bool o):=by rw[ah HC2.o];rfl
 have cf:=Lib.frozen_of_heap HC2.o;have z0:w2.cell? ⟨A+1,0,none⟩=some (.int .i64 0):=by rw[ah (show _=_ from HZ2.o)];rfl
 have z1:w2.cell? ⟨A+1,1,none⟩=some (.int .i64 0):=by rw[ah (show _=_ from HZ2.o)];rfl
 have z2:w2.cell? ⟨A+1,2,none⟩=some (.int .i64 0):=by rw[ah (show _=_ from HZ2.o)];rfl
 have z3:w2.cell? ⟨A+1,3,none⟩=some (.string ⟨#[]⟩):=by rw[ah (show _=_ from HZ2.o)];rfl
 have z4:w2.cell? ⟨A+1,4,none⟩=some (.string ⟨#[]⟩):=by rw[ah (show _=_ from HZ2.o)];rfl
 have z5:w2.cell? ⟨A+1,5,none⟩=some (.int .i64 0):=by rw[ah (show _=_ from HZ2.o)];rfl
 have z6:w2.cell? ⟨A+1,6,none⟩=some (.int .i64 0):=by rw[ah (show _=_ from HZ2.o)];rfl
 have z7:w2.cell? ⟨A+1,7,none⟩=some (.int .i64 0):=by rw[ah (show _=_ from HZ2.o)];rfl
 have z8:w2.cell? ⟨A+1,8,none⟩=some (.string ⟨#[]⟩):=by rw[ah (show _=_ from HZ2.o)];rfl
 have z9:w2.cell? ⟨A+1,9,none⟩=some (.string ⟨#[]⟩):=by rw[ah (show _=_ from HZ2.o)];rfl
 have z10:w2.cell? ⟨A+1,10,none⟩=some (.bool false):=by rw[ah (show _=_ from HZ2.o)];rfl
 have zf:=HZ2.o.f;have hcc:=oL.o;have n1:¬(A+1=C):=by omega
 have n2:¬(C=A+1):=by omega
 have n3:¬(A=C):=by omega
 have n4:¬(C=A):=by omega
 clear hcc;go_wp2;have hrw:=HZ2.o;unfold SZ at hrw;have hb:=oL.o;refine bodyPost_ret (results_cell_row rfl _ _ (A+1) 203 #[.int .i64 0,.int .i64 0,.int .i64 0,.string ⟨#[48]⟩,.string ⟨#[]⟩,.int .i64 y1,.int .i64 y2,.int .i64 y3,.string y4,.string y5,.bool o] (0,0) _ rfl ?_ underlying203 rfl (by kernel_rfl)) rfl ⟨rfl,by repeat (first|refine nR ?_ (by omega)|exact HG2.o)⟩;simp[World.setCell,Array.getElem?_modify,hrw,n2]
theorem aa2(a b c n x1 x2 x3 y1 y2 y3:Int)(P x4 x5 y4 y5:ByteArray)(w:World)(CN:∀w,Calls prog 211 #[.agg #[.int .i64 a,.int .i64 b,.int .i64 c,.string P,.string ⟨#[]⟩,.int .i64 n]] w fun e w'=>e=.returned (.agg #[.int .i64 x1,.int .i64 x2,.int .i64 x3,.string x4,.string x5,.int .i64 y1,.int .i64 y2,.int .i64 y3,.string y4,.string y5,.bool true])/\w.grownBy w' none) :
  Calls prog 209 #[.agg #[.int .i64 a,.int .i64 b,.int .i64 c,.string P,.string ⟨#[]⟩,.int .i64 n]] w fun e w'=>e=.returned (.agg #[.int .i64 0,.int .i64 0,.int .i64 0,.string ⟨#[48]⟩,.string ⟨#[]⟩,.int .i64 0,.int .i64 0,.int .i64 0,.string ⟨#[48]⟩,.string ⟨#[]⟩,.bool false])/\w.grownBy w' none:=by
 have HN:=ae CN;have HL:=ae AP;clear CN;go_enter func209,ntmps209;go_wp2_with (go_at_call 211;refine(HN.o _).mono ?_);rintro e w1 ⟨rfl,hg⟩;obtain⟨A,hA⟩:=zN (w.heap.size);have HV:Hd (PB A a b c P n w1):=by
  refine PB.grow (w:=(w.alloc (.cells #[.int .i64 a,.int .i64 b,.int .i64 c,.string P,.string ⟨#[]⟩,.int .i64 n] 247)).alloc (.cells #[.int .i64 0,.int .i64 0,.int .i64 0,.string ⟨#[]⟩,.string ⟨#[]⟩,.int .i64 0,.int .i64 0,.int .i64 0,.string ⟨#[]⟩,.string ⟨#[]⟩,.bool false] 203)) ?_ hg;unfold PB;rw[<-hA,Lib.alloc_old _ _ _ (by simp)];exact heap_alloc_new w _
 have HZ:Hd (SZ (A+1) w1):=by
  refine SZ.grow (w:=(w.alloc (.cells #[.int .i64 a,.int .i64 b,.int .i64 c,.string P,.string ⟨#[]⟩,.int .i64 n] 247)).alloc (.cells #[.int .i64 0,.int .i64 0,.int .i64 0,.string ⟨#[]⟩,.string ⟨#[]⟩,.int .i64 0,.int .i64 0,.int .i64 0,.string ⟨#[]⟩,.string ⟨#[]⟩,.bool false] 203)) ?_ hg;unfold SZ;rw[<-hA];exact nT w _ _
 have HG:=ae (ag (ak (ak (ai w none) _) _) hg);have HB:Hd (w.heap.size<=A/\A+1<w1.heap.size):=⟨Nat.le_of_eq hA,(aC HZ.o)⟩
 try rw[hA]
 clear hA hg;go_wp2_with (fail);obtain⟨C,hC⟩:=zN (w1.heap.size);obtain⟨W,hW⟩:=zN (w1.alloc (.cells #[.int .i64 x1,.int .i64 x2,.int .i64 x3,.string x4,.string x5,.int .i64 y1,.int .i64 y2,.int .i64 y3,.string y4,.string y5,.bool true] 203));have hgW:w1.grownBy W none:=by rw[<-hW];exact ak (ai w1 none) _
 have AQ:=ae (HV.o.grow hgW);have fQ:=ae (HZ.o.grow hgW);have bU:Hd (W.heap[C]?=some (.cells #[.int .i64 x1,.int .i64 x2,.int .i64 x3,.string x4,.string x5,.int .i64 y1,.int .i64 y2,.int .i64 y3,.string y4,.string y5,.bool true] 203 (0,0))):=by show _=_;rw[<-hW,<-hC];exact heap_alloc_new w1 _
 have bD:=ae (ag HG.o hgW);have oL:Hd (w.heap.size<=A/\A+1<C/\C<W.heap.size):=by refine⟨HB.o.1,?_,(aC bU.o)⟩;rw[<-hC];exact HB.o.2
 clear hgW HV HZ HG HB
 try rw[hW]
 try rw[hC]
 clear hW hC;have c0:W.cell? ⟨C,0,none⟩=some (.int .i64 x1):=by rw[ah bU.o];rfl
 have c1:W.cell? ⟨C,1,none⟩=some (.int .i64 x2):=by rw[ah bU.o];rfl
 have c2:W.cell? ⟨C,2,none⟩=some (.int .i64 x3):=by rw[ah bU.o];rfl
 have c3:W.cell? ⟨C,3,none⟩=some (.string x4):=by rw[ah bU.o];rfl
 have c4:W.cell? ⟨C,4,none⟩=some (.string x5):=by rw[ah bU.o];rfl
 have c5:W.cell? ⟨C,5,none⟩=some (.int .i64 y1):=by rw[ah bU.o];rfl
 have c6:W.cell? ⟨C,6,none⟩=some (.int .i64 y2):=by rw[ah bU.o];rfl
 have c7:W.cell? ⟨C,7,none⟩=some (.int .i64 y3):=by rw[ah bU.o];rfl
 have c8:W.cell? ⟨C,8,none⟩=some (.string y4):=by rw[ah bU.o];rfl
 have c9:W.cell? ⟨C,9,none⟩=some (.string y5):=by rw[ah bU.o];rfl
 have c10:W.cell? ⟨C,10,none⟩=some (.bool true):=by rw[ah bU.o];rfl
 have cf:=Lib.frozen_of_heap bU.o;go_wp2_with (go_at_call 168;refine(HL.o _).mono ?_);rintro e w2 ⟨rfl,hg⟩;have HZ2:=ae (fQ.o.grow hg);have HG2:=ae (ag bD.o hg);clear hg AQ fQ bU bD c0 c1 c2 c3 c4 c5 c6 c7 c8 c9 c10 cf;go_wp2_with (go_at_call 168;refine(HL.o _).mono ?_);rintro e w3 ⟨rfl,hg⟩;have HZ3:=ae (HZ2.o.grow hg);have dD:=ae (ag HG2.o hg);clear hg HZ2 HG2;have z0:w3.cell? ⟨A+1,0,none⟩=some (.int .i64 0):=by rw[ah (show _=_ from HZ3.o)];rfl
 have z1:w3.cell? ⟨A+1,1,none⟩=some (.int .i64 0):=by rw[ah (show _=_ from HZ3.o)];rfl
 have z2:w3.cell? ⟨A+1,2,none⟩=some (.int .i64 0):=by rw[ah (show _=_ from HZ3.o)];rfl
 have z3:w3.cell? ⟨A+1,3,none⟩=some (.string ⟨#[]⟩):=by rw[ah (show _=_ from HZ3.o)];rfl
 have z4:w3.cell? ⟨A+1,4,none⟩=some (.string ⟨#[]⟩):=by rw[ah (show _=_ from HZ3.o)];rfl
 have z5:w3.cell? ⟨A+1,5,none⟩=some (.int .i64 0):=by rw[ah (show _=_ from HZ3.o)];rfl
 have z6:w3.cell? ⟨A+1,6,none⟩=some (.int .i64 0):=by rw[ah (show _=_ from HZ3.o)];rfl
 have z7:w3.cell? ⟨A+1,7,none⟩=some (.int .i64 0):=by rw[ah (show _=_ from HZ3.o)];rfl
 have z8:w3.cell? ⟨A+1,8,none⟩=some (.string ⟨#[]⟩):=by rw[ah (show _=_ from HZ3.o)];rfl
 have z9:w3.cell? ⟨A+1,9,none⟩=some (.string ⟨#[]⟩):=by rw[ah (show _=_ from HZ3.o)];rfl
 have z10:w3.cell? ⟨A+1,10,none⟩=some (.bool false):=by rw[ah (show _=_ from HZ3.o)];rfl
 have zf:=HZ3.o.f;go_wp2;have hrw:=HZ3.o;unfold SZ at hrw;have hb:=oL.o;refine bodyPost_ret (results_cell_row rfl _ _ (A+1) 203 #[.int .i64 0,.int .i64 0,.int .i64 0,.string ⟨#[48]⟩,.string ⟨#[]⟩,.int .i64 0,.int .i64 0,.int .i64 0,.string ⟨#[48]⟩,.string ⟨#[]⟩,.bool false] (0,0) _ rfl ?_ underlying203 rfl (by kernel_rfl)) rfl ⟨rfl,by repeat (first|refine nR ?_ (by omega)|exact dD.o)⟩;simp[World.setCell,Array.getElem?_modify,hrw]
theorem aa3(a b c n x1 x2 x3 y1 y2 y3:Int)(P x4 x5 y4 y5:ByteArray)(w:World)(CN:∀w,Calls prog 211 #[.agg #[.int .i64 a,.int .i64 b,.int .i64 c,.string P,.string ⟨#[]⟩,.int .i64 n]] w fun e w'=>e=.returned (.agg #[.int .i64 x1,.int .i64 x2,.int .i64 x3,.string x4,.string x5,.int .i64 y1,.int .i64 y2,.int .i64 y3,.string y4,.string y5,.bool false])/\w.grownBy w' none) :
  Calls prog 209 #[.agg #[.int .i64 a,.int .i64 b,.int .i64 c,.string P,.string ⟨#[]⟩,.int .i64 n]] w fun e w'=>e=.returned (.agg #[.int .i64 y1,.int .i64 y2,.int .i64 y3,.string y4,.string y5,.int .i64 0,.int .i64 0,.int .i64 0,.string ⟨#[]⟩,.string ⟨#[]⟩,.bool true])/\w.grownBy w' none:=by
 have HN:=ae CN;have HL:=ae AP;clear CN;go_enter func209,ntmps209;go_wp2_with (go_at_call 211;refine(HN.o _).mono ?_);rintro e w1 ⟨rfl,hg⟩;obtain⟨A,hA⟩:=zN (w.heap.size);have HV:Hd (PB A a b c P n w1):=by
  refine PB.grow (w:=(w.alloc (.cells #[.int .i64 a,.int .i64 b,.int .i64 c,.string P,.string ⟨#[]⟩,.int .i64 n] 247)).alloc (.cells #[.int .i64 0,.int .i64 0,.int .i64 0,.string ⟨#[]⟩,.string ⟨#[]⟩,.int .i64 0,.int .i64 0,.int .i64 0,.string ⟨#[]⟩,.string ⟨#[]⟩,.bool false] 203)) ?_ hg;unfold PB;rw[<-hA,Lib.alloc_old _ _ _ (by simp)];exact heap_alloc_new w _
 have HZ:Hd (SZ (A+1) w1):=by
  refine SZ.grow (w:=(w.alloc (.cells #[.int .i64 a,.int .i64 b,.int .i64 c,.string P,.string ⟨#[]⟩,.int .i64 n] 247)).alloc (.cells #[.int .i64 0,.int .i64 0,.int .i64 0,.string ⟨#[]⟩,.string ⟨#[]⟩,.int .i64 0,.int .i64 0,.int .i64 0,.string ⟨#[]⟩,.string ⟨#[]⟩,.bool false] 203)) ?_ hg;unfold SZ;rw[<-hA];exact nT w _ _
 have HG:=ae (ag (ak (ak (ai w none) _) _) hg);have HB:Hd (w.heap.size<=A/\A+1<w1.heap.size):=⟨Nat.le_of_eq hA,(aC HZ.o)⟩
 try rw[hA]
 clear hA hg;obtain⟨C,hC⟩:=zN (w1.heap.size);obtain⟨W,hW⟩:=zN (w1.alloc (.cells #[.int .i64 x1,.int .i64 x2,.int .i64 x3,.string x4,.string x5,.int .i64 y1,.int .i64 y2,.int .i64 y3,.string y4,.string y5,.bool false] 203));have hgW:w1.grownBy W none:=by rw[<-hW];exact ak (ai w1 none) _
 have AQ:=ae (HV.o.grow hgW);have fQ:=ae (HZ.o.grow hgW);have bU:Hd (W.heap[C]?=some (.cells #[.int .i64 x1,.int .i64 x2,.int .i64 x3,.string x4,.string x5,.int .i64 y1,.int .i64 y2,.int .i64 y3,.string y4,.string y5,.bool false] 203 (0,0))):=by show _=_;rw[<-hW,<-hC];exact heap_alloc_new w1 _
 have bD:=ae (ag HG.o hgW);have oL:Hd (w.heap.size<=A/\A+1<C/\C<W.heap.size):=by refine⟨HB.o.1,?_,(aC bU.o)⟩;rw[<-hC];exact HB.o.2
 clear hgW HV HZ HG HB;have c0:W.cell? ⟨C,0,none⟩=some (.int .i64 x1):=by rw[ah bU.o];rfl
 have c1:W.cell? ⟨C,1,none⟩=some (.int .i64 x2):=by rw[ah bU.o];rfl
 have c2:W.cell? ⟨C,2,none⟩=some (.int .i64 x3):=by rw[ah bU.o];rfl
 have c3:W.cell? ⟨C,3,none⟩=some (.string x4):=by rw[ah bU.o];rfl
 have c4:W.cell? ⟨C,4,none⟩=some (.string x5):=by rw[ah bU.o];rfl
 have c5:W.cell? ⟨C,5,none⟩=some (.int .i64 y1):=by rw[ah bU.o];rfl
 have c6:W.cell? ⟨C,6,none⟩=some (.int .i64 y2):=by rw[ah bU.o];rfl
 have c7:W.cell? ⟨C,7,none⟩=some (.int .i64 y3):=by rw[ah bU.o];rfl
 have c8:W.cell? ⟨C,8,none⟩=some (.string y4):=by rw[ah bU.o];rfl
 have c9:W.cell? ⟨C,9,none⟩=some (.string y5):=by rw[ah bU.o];rfl
 have c10:W.cell? ⟨C,10,none⟩=some (.bool false):=by rw[ah bU.o];rfl
 have cf:=Lib.frozen_of_heap bU.o;have z0:W.cell? ⟨A+1,0,none⟩=some (.int .i64 0):=by rw[ah (show _=_ from fQ.o)];rfl
 have z1:W.cell? ⟨A+1,1,none⟩=some (.int .i64 0):=by rw[ah (show _=_ from fQ.o)];rfl
 have z2:W.cell? ⟨A+1,2,none⟩=some (.int .i64 0):=by rw[ah (show _=_ from fQ.o)];rfl
 have z3:W.cell? ⟨A+1,3,none⟩=some (.string ⟨#[]⟩):=by rw[ah (show _=_ from fQ.o)];rfl
 have z4:W.cell? ⟨A+1,4,none⟩=some (.string ⟨#[]⟩):=by rw[ah (show _=_ from fQ.o)];rfl
 have z5:W.cell? ⟨A+1,5,none⟩=some (.int .i64 0):=by rw[ah (show _=_ from fQ.o)];rfl
 have z6:W.cell? ⟨A+1,6,none⟩=some (.int .i64 0):=by rw[ah (show _=_ from fQ.o)];rfl
 have z7:W.cell? ⟨A+1,7,none⟩=some (.int .i64 0):=by rw[ah (show _=_ from fQ.o)];rfl
 have z8:W.cell? ⟨A+1,8,none⟩=some (.string ⟨#[]⟩):=by rw[ah (show _=_ from fQ.o)];rfl
 have z9:W.cell? ⟨A+1,9,none⟩=some (.string ⟨#[]⟩):=by rw[ah (show _=_ from fQ.o)];rfl
 have z10:W.cell? ⟨A+1,10,none⟩=some (.bool false):=by rw[ah (show _=_ from fQ.o)];rfl
 have zf:=fQ.o.f;have hcc:=oL.o;have n1:¬(A+1=C):=by omega
 have n2:¬(C=A+1):=by omega
 have n3:¬(A=C):=by omega
 have n4:¬(C=A):=by omega
 clear hcc;go_wp2;have hrw:=fQ.o;unfold SZ at hrw;have hb:=oL.o;refine bodyPost_ret (results_cell_row rfl _ _ (A+1) 203 #[.int .i64 y1,.int .i64 y2,.int .i64 y3,.string y4,.string y5,.int .i64 0,.int .i64 0,.int .i64 0,.string ⟨#[]⟩,.string ⟨#[]⟩,.bool true] (0,0) _ rfl ?_ underlying203 rfl (by kernel_rfl)) rfl ⟨rfl,by repeat (first|refine nR ?_ (by omega)|exact bD.o)⟩;simp[World.setCell,Array.getElem?_modify,hrw,n2]
theorem aa4(a' b' c' n':Int)(P':ByteArray)(a b c n x1 x2 x3 y1 y2 y3:Int)(P x4 x5 y4 y5:ByteArray)(o:Bool)(w:World)(CN:∀w,Calls prog 211 #[.agg #[.int .i64 a,.int .i64 b,.int .i64 c,.string P,.string ⟨#[]⟩,.int .i64 n]] w fun e w'=>e=.returned (.agg #[.int .i64 x1,.int .i64 x2,.int .i64 x3,.string x4,.string x5,.int .i64 y1,.int .i64 y2,.int .i64 y3,.string y4,.string y5,.bool o])/\w.grownBy w' none) :
  Calls prog 193 #[.agg #[.int .i64 a',.int .i64 b',.int .i64 c',.string P',.string ⟨#[]⟩,.int .i64 n'],.agg #[.int .i64 a,.int .i64 b,.int .i64 c,.string P,.string ⟨#[]⟩,.int .i64 n]] w fun e w'=>e=.returned (.agg #[.int .i64 a',.int .i64 b',.int .i64 c',.string P',.string ⟨#[]⟩,.int .i64 y1,.int .i64 y2,.int .i64 y3,.string y4,.string y5,.bool o])/\w.grownBy w' none:=by
 have HN:=ae CN;clear CN;go_enter func193,ntmps193;go_wp2_with (go_at_call 211;refine(HN.o _).mono ?_);rintro e w1 ⟨rfl,hg⟩;obtain⟨A,hA⟩:=zN (w.heap.size);have HV:Hd (PB A a' b' c' P' n' w1):=by
  refine PB.grow ?_ hg;unfold PB;rw[<-hA,Lib.alloc_old _ _ _ (by simp;omega),Lib.alloc_old _ _ _ (by simp)];exact heap_alloc_new w _
 have HZ:Hd (SZ (A+2) w1):=by
  refine SZ.grow ?_ hg;unfold SZ;rw[<-hA];exact Rq w _ _ _
 have HG:=ae (ag (ak (ak (ak (ai w none) _) _) _) hg);have HB:Hd (w.heap.size<=A/\A+2<w1.heap.size):=⟨Nat.le_of_eq hA,(aC HZ.o)⟩
 try rw[hA]
 clear hA hg;obtain⟨C,hC⟩:=zN (w1.heap.size);obtain⟨W,hW⟩:=zN (w1.alloc (.cells #[.int .i64 x1,.int .i64 x2,.int .i64 x3,.string x4,.string x5,.int .i64 y1,.int .i64 y2,.int .i64 y3,.string y4,.string y5,.bool o] 203));have hgW:w1.grownBy W none:=by rw[<-hW];exact ak (ai w1 none) _
 have AQ:=ae (HV.o.grow hgW);have fQ:=ae (HZ.o.grow hgW);have bU:Hd (W.heap[C]?=some (.cells #[.int .i64 x1,.int .i64 x2,.int .i64 x3,.string x4,.string x5,.int .i64 y1,.int .i64 y2,.int .i64 y3,.string y4,.string y5,.bool o] 203 (0,0))):=by show _=_;rw[<-hW,<-hC];exact heap_alloc_new w1 _
 have bD:=ae (ag HG.o hgW);have oL:Hd (w.heap.size<=A/\A+2<C/\C<W.heap.size):=by refine⟨HB.o.1,?_,(aC bU.o)⟩;rw[<-hC];exact HB.o.2
 clear hgW HV HZ HG HB;have c0:W.cell? ⟨C,0,none⟩=some (.int .i64 x1):=by rw[ah bU.o];rfl
 have c1:W.cell? ⟨C,1,none⟩=some (.int .i64 x2):=by rw[ah bU.o];rfl
 have c2:W.cell? ⟨C,2,none⟩=some (.int .i64 x3):=by rw[ah bU.o];rfl
 have c3:W.cell? ⟨C,3,none⟩=some (.string x4):=by rw[ah bU.o];rfl
 have c4:W.cell? ⟨C,4,none⟩=some (.string x5):=by rw[ah bU.o];rfl
 have c5:W.cell? ⟨C,5,none⟩=some (.int .i64 y1):=by rw[ah bU.o];rfl
 have c6:W.cell? ⟨C,6,none⟩=some (.int .i64 y2):=by rw[ah bU.o];rfl
 have c7:W.cell? ⟨C,7,none⟩=some (.int .i64 y3):=by rw[ah bU.o];rfl
 have c8:W.cell? ⟨C,8,none⟩=some (.string y4):=by rw[ah bU.o];rfl
 have c9:W.cell? ⟨C,9,none⟩=some (.string y5):=by rw[ah bU.o];rfl
 have c10:W.cell? ⟨C,10,none⟩=some (.bool o):=by rw[ah bU.o];rfl
 have cf:=Lib.frozen_of_heap bU.o;have z0:W.cell? ⟨A+2,0,none⟩=some (.int .i64 0):=by rw[ah (show _=_ from fQ.o)];rfl
 have z1:W.cell? ⟨A+2,1,none⟩=some (.int .i64 0):=by rw[ah (show _=_ from fQ.o)];rfl
 have z2:W.cell? ⟨A+2,2,none⟩=some (.int .i64 0):=by rw[ah (show _=_ from fQ.o)];rfl
 have z3:W.cell? ⟨A+2,3,none⟩=some (.string ⟨#[]⟩):=by rw[ah (show _=_ from fQ.o)];rfl
 have z4:W.cell? ⟨A+2,4,none⟩=some (.string ⟨#[]⟩):=by rw[ah (show _=_ from fQ.o)];rfl
 have z5:W.cell? ⟨A+2,5,none⟩=some (.int .i64 0):=by rw[ah (show _=_ from fQ.o)];rfl
 have z6:W.cell? ⟨A+2,6,none⟩=some (.int .i64 0):=by rw[ah (show _=_ from fQ.o)];rfl
 have z7:W.cell? ⟨A+2,7,none⟩=some (.int .i64 0):=by rw[ah (show _=_ from fQ.o)];rfl
 have z8:W.cell? ⟨A+2,8,none⟩=some (.string ⟨#[]⟩):=by rw[ah (show _=_ from fQ.o)];rfl
 have z9:W.cell? ⟨A+2,9,none⟩=some (.string ⟨#[]⟩):=by rw[ah (show _=_ from fQ.o)];rfl
 have z10:W.cell? ⟨A+2,10,none⟩=some (.bool false):=by rw[ah (show _=_ from fQ.o)];rfl
 have zf:=fQ.o.f;obtain⟨e0,e1,e2,e3,e4,e5⟩:=AQ.o.cells;have hcc:=oL.o;have n1:¬(A+2=C):=by omega
 have n2:¬(C=A+2):=by omega
 have n3:¬(A=C):=by omega
 have n4:¬(C=A):=by omega
 clear hcc;go_wp2;have hrw:=fQ.o;unfold SZ at hrw;have hb:=oL.o;refine bodyPost_ret (results_cell_row rfl _ _ (A+2) 203 #[.int .i64 a',.int .i64 b',.int .i64 c',.string P',.string ⟨#[]⟩,.int .i64 y1,.int .i64 y2,.int .i64 y3,.string y4,.string y5,.bool o] (0,0) _ rfl ?_ underlying203 rfl (by kernel_rfl)) rfl ⟨rfl,by repeat (first|refine nR ?_ (by omega)|exact bD.o)⟩;simp[World.setCell,Array.getElem?_modify,hrw,n2]
end Go.Proofs.YtiinliaoojfjaaaGreatDoor
