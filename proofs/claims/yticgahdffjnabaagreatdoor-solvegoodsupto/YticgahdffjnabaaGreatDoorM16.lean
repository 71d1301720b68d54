import Derived.Test.YticgahdffjnabaaGreatDoorM15
import Derived.Below
set_option linter.unusedVariables false
set_option maxHeartbeats 1600000
namespace Go.Proofs.YticgahdffjnabaaGreatDoor
open Go.RowKit
def VA (A:Nat) (x1 x2 x3:Int) (P B:ByteArray) (w:World):Prop:=w.heap[A]?=some (.cells #[.int .i64 x1,.int .i64 x2,.int .i64 x3,.string P,.string B] 69 (0,0))
theorem VA.c0 {A:Nat} {x1 x2 x3:Int} {P B:ByteArray} {w:World} (h:VA A x1 x2 x3 P B w):w.cell? ⟨A,0,none⟩=some (.int .i64 x1):=by rw [cOH h];rfl
theorem VA.c1 {A:Nat} {x1 x2 x3:Int} {P B:ByteArray} {w:World} (h:VA A x1 x2 x3 P B w):w.cell? ⟨A,1,none⟩=some (.int .i64 x2):=by rw [cOH h];rfl
theorem VA.c2 {A:Nat} {x1 x2 x3:Int} {P B:ByteArray} {w:World} (h:VA A x1 x2 x3 P B w):w.cell? ⟨A,2,none⟩=some (.int .i64 x3):=by rw [cOH h];rfl
theorem VA.c3 {A:Nat} {x1 x2 x3:Int} {P B:ByteArray} {w:World} (h:VA A x1 x2 x3 P B w):w.cell? ⟨A,3,none⟩=some (.string P):=by rw [cOH h];rfl
theorem VA.c4 {A:Nat} {x1 x2 x3:Int} {P B:ByteArray} {w:World} (h:VA A x1 x2 x3 P B w):w.cell? ⟨A,4,none⟩=some (.string B):=by rw [cOH h];rfl
theorem VA.other {A V:Nat} {x1 x2 x3:Int} {P B:ByteArray} {w:World} (h:VA A x1 x2 x3 P B w) (hn:A ≠ V) (o:Nat) (x:Value):VA A x1 x2 x3 P B (w.setCell ⟨V,o,none⟩ x):=by
 unfold VA at h ⊢;rw [heap_setCell_other w _ A x (by simpa using hn)];exact h
theorem VA.f {A:Nat} {x1 x2 x3:Int} {P B:ByteArray} {w:World} (h:VA A x1 x2 x3 P B w) (o:Nat):w.frozen? ⟨A,o,none⟩=false:=Lib.frozen_of_heap h o
theorem VA.grow {A:Nat} {x1 x2 x3:Int} {P B:ByteArray} {w w':World} (h:VA A x1 x2 x3 P B w) (hg:w.grownBy w' none):VA A x1 x2 x3 P B w':=by
 unfold VA at h ⊢;rw [hg.block A ((hqL h)) (by simp)];exact h
theorem VA.set0 {A:Nat} {x1 x2 x3:Int} {P B:ByteArray} {w:World} (h:VA A x1 x2 x3 P B w) (y:Int):VA A y x2 x3 P B (w.setCell ⟨A,0,none⟩ (.int .i64 y)):=by
 unfold VA at h ⊢;simp [World.setCell,Array.getElem?_modify,h]
theorem VA.set1 {A:Nat} {x1 x2 x3:Int} {P B:ByteArray} {w:World} (h:VA A x1 x2 x3 P B w) (y:Int):VA A x1 y x3 P B (w.setCell ⟨A,1,none⟩ (.int .i64 y)):=by
 unfold VA at h ⊢;simp [World.setCell,Array.getElem?_modify,h]
theorem VA.set2 {A:Nat} {x1 x2 x3:Int} {P B:ByteArray} {w:World} (h:VA A x1 x2 x3 P B w) (y:Int):VA A x1 x2 y P B (w.setCell ⟨A,2,none⟩ (.int .i64 y)):=by
 unfold VA at h ⊢;simp [World.setCell,Array.getElem?_modify,h]
theorem VA.set3 {A:Nat} {x1 x2 x3:Int} {P B:ByteArray} {w:World} (h:VA A x1 x2 x3 P B w) (y:ByteArray):VA A x1 x2 x3 y B (w.setCell ⟨A,3,none⟩ (.string y)):=by
 unfold VA at h ⊢;simp [World.setCell,Array.getElem?_modify,h]
theorem jp0 (v:Nat) (w:World):(Instr.index 137 (.agg #[.pointer (some ⟨v,0,none⟩),.pointer (some ⟨v,1,none⟩),.pointer (some ⟨v,2,none⟩)]) (.int .i64 0)).run Tryz.prog w=.ok (.pointer (some ⟨v,0,none⟩)) w:=by kernel_rfl
theorem jp1 (v:Nat) (w:World):(Instr.index 137 (.agg #[.pointer (some ⟨v,0,none⟩),.pointer (some ⟨v,1,none⟩),.pointer (some ⟨v,2,none⟩)]) (.int .i64 1)).run Tryz.prog w=.ok (.pointer (some ⟨v,1,none⟩)) w:=by kernel_rfl
theorem jp2 (v:Nat) (w:World):(Instr.index 137 (.agg #[.pointer (some ⟨v,0,none⟩),.pointer (some ⟨v,1,none⟩),.pointer (some ⟨v,2,none⟩)]) (.int .i64 2)).run Tryz.prog w=.ok (.pointer (some ⟨v,2,none⟩)) w:=by kernel_rfl
set_option maxRecDepth 100000 in
theorem behind1_any (a b c:Int) (P:ByteArray) (w:World) (ha:0<=a/\a<=999999999) (hb:0<=b/\b<=999999999) (hc:0<=c/\c<=999999999) :
  Calls Tryz.prog 144 #[.agg #[.int .i64 a,.int .i64 b,.int .i64 c,.string P,.string ⟨#[]⟩],.int .i64 1] w fun e w'=>e=.returned (.agg #[.int .i64 (a+1),.int .i64 0,.int .i64 0,.string ⟨#[48]⟩,.string ⟨#[]⟩])/\w.grownBy w' none:=by
 go_enter Tryz.func144,Tryz.ntmps144;go_wp2_with (first | (go_at_call 133;refine (numbersOf_any _ _ (by simp;omega)).mono ?_));rintro e w1 ⟨rfl,hg⟩;obtain ⟨A,hA⟩:=nm (w.heap.size);have HV:Hd (VA A a b c ⟨#[48]⟩ ⟨#[]⟩ w1):=by
  refine VA.grow (w:=(w.alloc (.cells #[.int .i64 a,.int .i64 b,.int .i64 c,.string ⟨#[48]⟩,.string ⟨#[]⟩] 69)).alloc (.cells #[.int .i64 0,.int .i64 0,.int .i64 0,.string ⟨#[]⟩,.string ⟨#[]⟩] 69)) ?_ hg;unfold VA;rw [<-hA,Lib.alloc_old _ _ _ (by simp)];exact heap_alloc_new w _
 have HR:Hd (VA (A+1) 0 0 0 ⟨#[]⟩ ⟨#[]⟩ w1):=by
  refine VA.grow (w:=(w.alloc (.cells #[.int .i64 a,.int .i64 b,.int .i64 c,.string ⟨#[48]⟩,.string ⟨#[]⟩] 69)).alloc (.cells #[.int .i64 0,.int .i64 0,.int .i64 0,.string ⟨#[]⟩,.string ⟨#[]⟩] 69)) ?_ hg;have:=heap_alloc_new (w.alloc (.cells #[.int .i64 a,.int .i64 b,.int .i64 c,.string ⟨#[48]⟩,.string ⟨#[]⟩] 69)) (.cells #[.int .i64 0,.int .i64 0,.int .i64 0,.string ⟨#[]⟩,.string ⟨#[]⟩] 69);unfold VA;rw [<-hA];simpa using this
 have HG:Hd (w.grownBy w1 none):=gb_trans (gb_alloc (gb_alloc (gb_refl w none) _) _) hg;have HA:Hd (w.heap.size<=A):=by show _<=_;omega
 try rw [hA]
 clear hA hg;go_wp2;go_loopw [9] (fun vi wr=>((vi=.int .i64 0/\VA A a b c ⟨#[48]⟩ ⟨#[]⟩ wr)\/(vi=.int .i64 1/\VA A (a+1) b c ⟨#[48]⟩ ⟨#[]⟩ wr)\/(vi=.int .i64 2/\VA A (a+1) 0 c ⟨#[48]⟩ ⟨#[]⟩ wr)\/(vi=.int .i64 3/\VA A (a+1) 0 0 ⟨#[48]⟩ ⟨#[]⟩ wr))/\VA (A+1) 0 0 0 ⟨#[]⟩ ⟨#[]⟩ wr/\w.grownBy wr none) (fun vi _=>3 - (intOf vi).toNat)
 case atStart=>exact ⟨Or.inl ⟨rfl,HV.o⟩,HR.o,HG.o⟩
 case round =>
  obtain ⟨hs,hr,hg⟩:=hrel;clear HV HR HG;have HR:Hd (VA (A+1) 0 0 0 ⟨#[]⟩ ⟨#[]⟩ wr):=hr;have HG:Hd (w.grownBy wr none):=hg;clear hr hg
  rcases hs with ⟨rfl,hv⟩ | ⟨rfl,hv⟩ | ⟨rfl,hv⟩ | ⟨rfl,hv⟩
  ·have HV:Hd (VA A a b c ⟨#[48]⟩ ⟨#[]⟩ wr):=hv;have ix:=jp0 A wr;have cc:=HV.o.c0;have ff:=HV.o.f 0;clear hv;go_wp2;exact ⟨⟨Or.inr (Or.inl ⟨rfl,HV.o.set0 _⟩),HR.o.other (by omega) _ _,gb_own0 HG.o (gb_set (gb_refl wr (some A)) _ _) HA.o⟩,by simp [intOf]⟩
  ·have HV:Hd (VA A (a+1) b c ⟨#[48]⟩ ⟨#[]⟩ wr):=hv;have ix:=jp1 A wr;have cc:=HV.o.c1;have ff:=HV.o.f 1;clear hv;go_wp2;exact ⟨⟨Or.inr (Or.inr (Or.inl ⟨rfl,HV.o.set1 _⟩)),HR.o.other (by omega) _ _,gb_own0 HG.o (gb_set (gb_refl wr (some A)) _ _) HA.o⟩,by simp [intOf]⟩
  ·have HV:Hd (VA A (a+1) 0 c ⟨#[48]⟩ ⟨#[]⟩ wr):=hv;have ix:=jp2 A wr;have cc:=HV.o.c2;have ff:=HV.o.f 2;clear hv;go_wp2;exact ⟨⟨Or.inr (Or.inr (Or.inr (⟨rfl,HV.o.set2 _⟩))),HR.o.other (by omega) _ _,gb_own0 HG.o (gb_set (gb_refl wr (some A)) _ _) HA.o⟩,by simp [intOf]⟩
  ·have HV:Hd (VA A (a+1) 0 0 ⟨#[48]⟩ ⟨#[]⟩ wr):=hv;have e0:=HV.o.c0;have e1:=HV.o.c1;have e2:=HV.o.c2;have e3:=HV.o.c3;have e4:=HV.o.c4;have r0:=HR.o.c0;have r1:=HR.o.c1;have r2:=HR.o.c2;have r3:=HR.o.c3;have r4:=HR.o.c4;have ff:=HR.o.f;clear hv;go_wp2;have hr:=HR.o;unfold VA at hr;refine bodyPost_ret (results_cell_row rfl _ _ (A+1) 69 #[.int .i64 (a+1),.int .i64 0,.int .i64 0,.string ⟨#[48]⟩,.string ⟨#[]⟩] (0,0) _ rfl ?_ Tryz.underlying69 rfl (by kernel_rfl)) rfl ⟨rfl,gb_own0 HG.o (gb_set (gb_set (gb_set (gb_set (gb_set (gb_refl wr (some (A+1))) _ _) _ _) _ _) _ _) _ _) (by have:=HA.o;omega)⟩;simp [World.setCell,Array.getElem?_modify,hr]
set_option maxRecDepth 100000 in
theorem behind2_any (a b c:Int) (P:ByteArray) (w:World) (ha:0<=a/\a<=999999999) (hb:0<=b/\b<=999999999) (hc:0<=c/\c<=999999999) :
  Calls Tryz.prog 144 #[.agg #[.int .i64 a,.int .i64 b,.int .i64 c,.string P,.string ⟨#[]⟩],.int .i64 2] w fun e w'=>e=.returned (.agg #[.int .i64 a,.int .i64 (b+1),.int .i64 0,.string ⟨#[48]⟩,.string ⟨#[]⟩])/\w.grownBy w' none:=by
 go_enter Tryz.func144,Tryz.ntmps144;go_wp2_with (first | (go_at_call 133;refine (numbersOf_any _ _ (by simp;omega)).mono ?_));rintro e w1 ⟨rfl,hg⟩;obtain ⟨A,hA⟩:=nm (w.heap.size);have HV:Hd (VA A a b c ⟨#[48]⟩ ⟨#[]⟩ w1):=by
  refine VA.grow (w:=(w.alloc (.cells #[.int .i64 a,.int .i64 b,.int .i64 c,.string ⟨#[48]⟩,.string ⟨#[]⟩] 69)).alloc (.cells #[.int .i64 0,.int .i64 0,.int .i64 0,.string ⟨#[]⟩,.string ⟨#[]⟩] 69)) ?_ hg;unfold VA;rw [<-hA,Lib.alloc_old _ _ _ (by simp)];exact heap_alloc_new w _
 have HR:Hd (VA (A+1) 0 0 0 ⟨#[]⟩ ⟨#[]⟩ w1):=by
  refine VA.grow (w:=(w.alloc (.cells #[.int .i64 a,.int .i64 b,.int .i64 c,.string ⟨#[48]⟩,.string ⟨#[]⟩] 69)).alloc (.cells #[.int .i64 0,.int .i64 0,.int .i64 0,.string ⟨#[]⟩,.string ⟨#[]⟩] 69)) ?_ hg;have:=heap_alloc_new (w.alloc (.cells #[.int .i64 a,.int .i64 b,.int .i64 c,.string ⟨#[48]⟩,.string ⟨#[]⟩] 69)) (.cells #[.int .i64 0,.int .i64 0,.int .i64 0,.string ⟨#[]⟩,.string ⟨#[]⟩] 69);unfold VA;rw [<-hA];simpa using this
 have HG:Hd (w.grownBy w1 none):=gb_trans (gb_alloc (gb_alloc (gb_refl w none) _) _) hg;have HA:Hd (w.heap.size<=A):=by show _<=_;omega
 try rw [hA]
 clear hA hg;go_wp2;go_loopw [9] (fun vi wr=>((vi=.int .i64 0/\VA A a b c ⟨#[48]⟩ ⟨#[]⟩ wr)\/(vi=.int .i64 1/\VA A a b c ⟨#[48]⟩ ⟨#[]⟩ wr)\/(vi=.int .i64 2/\VA A a (b+1) c ⟨#[48]⟩ ⟨#[]⟩ wr)\/(vi=.int .i64 3/\VA A a (b+1) 0 ⟨#[48]⟩ ⟨#[]⟩ wr))/\VA (A+1) 0 0 0 ⟨#[]⟩ ⟨#[]⟩ wr/\w.grownBy wr none) (fun vi _=>3 - (intOf vi).toNat)
 case atStart=>exact ⟨Or.inl ⟨rfl,HV.o⟩,HR.o,HG.o⟩
 case round =>
  obtain ⟨hs,hr,hg⟩:=hrel;clear HV HR HG;have HR:Hd (VA (A+1) 0 0 0 ⟨#[]⟩ ⟨#[]⟩ wr):=hr;have HG:Hd (w.grownBy wr none):=hg;clear hr hg
  rcases hs with ⟨rfl,hv⟩ | ⟨rfl,hv⟩ | ⟨rfl,hv⟩ | ⟨rfl,hv⟩
  ·have HV:Hd (VA A a b c ⟨#[48]⟩ ⟨#[]⟩ wr):=hv;have ix:=jp0 A wr;have cc:=HV.o.c0;have ff:=HV.o.f 0;clear hv;go_wp2;go_roundw
   case rel=>exact ⟨Or.inr (Or.inl ⟨rfl,HV.o⟩),HR.o,HG.o⟩
   case measure=>simp [intOf]
  ·have HV:Hd (VA A a b c ⟨#[48]⟩ ⟨#[]⟩ wr):=hv;have ix:=jp1 A wr;have cc:=HV.o.c1;have ff:=HV.o.f 1;clear hv;go_wp2;exact ⟨⟨Or.inr (Or.inr (Or.inl ⟨rfl,HV.o.set1 _⟩)),HR.o.other (by omega) _ _,gb_own0 HG.o (gb_set (gb_refl wr (some A)) _ _) HA.o⟩,by simp [intOf]⟩
  ·have HV:Hd (VA A a (b+1) c ⟨#[48]⟩ ⟨#[]⟩ wr):=hv;have ix:=jp2 A wr;have cc:=HV.o.c2;have ff:=HV.o.f 2;clear hv;go_wp2;exact ⟨⟨Or.inr (Or.inr (Or.inr (⟨rfl,HV.o.set2 _⟩))),HR.o.other (by omega) _ _,gb_own0 HG.o (gb_set (gb_refl wr (some A)) _ _) HA.o⟩,by simp [intOf]⟩
  ·have HV:Hd (VA A a (b+1) 0 ⟨#[48]⟩ ⟨#[]⟩ wr):=hv;have e0:=HV.o.c0;have e1:=HV.o.c1;have e2:=HV.o.c2;have e3:=HV.o.c3;have e4:=HV.o.c4;have r0:=HR.o.c0;have r1:=HR.o.c1;have r2:=HR.o.c2;have r3:=HR.o.c3;have r4:=HR.o.c4;have ff:=HR.o.f;clear hv;go_wp2;have hr:=HR.o;unfold VA at hr;refine bodyPost_ret (results_cell_row rfl _ _ (A+1) 69 #[.int .i64 a,.int .i64 (b+1),.int .i64 0,.string ⟨#[48]⟩,.string ⟨#[]⟩] (0,0) _ rfl ?_ Tryz.underlying69 rfl (by kernel_rfl)) rfl ⟨rfl,gb_own0 HG.o (gb_set (gb_set (gb_set (gb_set (gb_set (gb_refl wr (some (A+1))) _ _) _ _) _ _) _ _) _ _) (by have:=HA.o;omega)⟩;simp [World.setCell,Array.getElem?_modify,hr]
set_option maxRecDepth 100000 in
theorem behind3_any (a b c:Int) (P:ByteArray) (w:World) (ha:0<=a/\a<=999999999) (hb:0<=b/\b<=999999999) (hc:0<=c/\c<=999999999) :
  Calls Tryz.prog 144 #[.agg #[.int .i64 a,.int .i64 b,.int .i64 c,.string P,.string ⟨#[]⟩],.int .i64 3] w fun e w'=>e=.returned (.agg #[.int .i64 a,.int .i64 b,.int .i64 (c+1),.string ⟨#[48]⟩,.string ⟨#[]⟩])/\w.grownBy w' none:=by
 go_enter Tryz.func144,Tryz.ntmps144;go_wp2_with (first | (go_at_call 133;refine (numbersOf_any _ _ (by simp;omega)).mono ?_));rintro e w1 ⟨rfl,hg⟩;obtain ⟨A,hA⟩:=nm (w.heap.size);have HV:Hd (VA A a b c ⟨#[48]⟩ ⟨#[]⟩ w1):=by
  refine VA.grow (w:=(w.alloc (.cells #[.int .i64 a,.int .i64 b,.int .i64 c,.string ⟨#[48]⟩,.string ⟨#[]⟩] 69)).alloc (.cells #[.int .i64 0,.int .i64 0,.int .i64 0,.string ⟨#[]⟩,.string ⟨#[]⟩] 69)) ?_ hg;unfold VA;rw [<-hA,Lib.alloc_old _ _ _ (by simp)];exact heap_alloc_new w _
 have HR:Hd (VA (A+1) 0 0 0 ⟨#[]⟩ ⟨#[]⟩ w1):=by
  refine VA.grow (w:=(w.alloc (.cells #[.int .i64 a,.int .i64 b,.int .i64 c,.string ⟨#[48]⟩,.string ⟨#[]⟩] 69)).alloc (.cells #[.int .i64 0,.int .i64 0,.int .i64 0,.string ⟨#[]⟩,.string ⟨#[]⟩] 69)) ?_ hg;have:=heap_alloc_new (w.alloc (.cells #[.int .i64 a,.int .i64 b,.int .i64 c,.string ⟨#[48]⟩,.string ⟨#[]⟩] 69)) (.cells #[.int .i64 0,.int .i64 0,.int .i64 0,.string ⟨#[]⟩,.string ⟨#[]⟩] 69);unfold VA;rw [<-hA];simpa using this
 have HG:Hd (w.grownBy w1 none):=gb_trans (gb_alloc (gb_alloc (gb_refl w none) _) _) hg;have HA:Hd (w.heap.size<=A):=by show _<=_;omega
 try rw [hA]
 clear hA hg;go_wp2;go_loopw [9] (fun vi wr=>((vi=.int .i64 0/\VA A a b c ⟨#[48]⟩ ⟨#[]⟩ wr)\/(vi=.int .i64 1/\VA A a b c ⟨#[48]⟩ ⟨#[]⟩ wr)\/(vi=.int .i64 2/\VA A a b c ⟨#[48]⟩ ⟨#[]⟩ wr)\/(vi=.int .i64 3/\VA A a b (c+1) ⟨#[48]⟩ ⟨#[]⟩ wr))/\VA (A+1) 0 0 0 ⟨#[]⟩ ⟨#[]⟩ wr/\w.grownBy wr none) (fun vi _=>3 - (intOf vi).toNat)
 case atStart=>exact ⟨Or.inl ⟨rfl,HV.o⟩,HR.o,HG.o⟩
 case round =>
  obtain ⟨hs,hr,hg⟩:=hrel;clear HV HR HG;have HR:Hd (VA (A+1) 0 0 0 ⟨#[]⟩ ⟨#[]⟩ wr):=hr;have HG:Hd (w.grownBy wr none):=hg;clear hr hg
  rcases hs with ⟨rfl,hv⟩ | ⟨rfl,hv⟩ | ⟨rfl,hv⟩ | ⟨rfl,hv⟩
  ·have HV:Hd (VA A a b c ⟨#[48]⟩ ⟨#[]⟩ wr):=hv;have ix:=jp0 A wr;have cc:=HV.o.c0;have ff:=HV.o.f 0;clear hv;go_wp2;go_roundw
   case rel=>exact ⟨Or.inr (Or.inl ⟨rfl,HV.o⟩),HR.o,HG.o⟩
   case measure=>simp [intOf]
  ·have HV:Hd (VA A a b c ⟨#[48]⟩ ⟨#[]⟩ wr):=hv;have ix:=jp1 A wr;have cc:=HV.o.c1;have ff:=HV.o.f 1;clear hv;go_wp2;go_roundw
   case rel=>exact ⟨Or.inr (Or.inr (Or.inl ⟨rfl,HV.o⟩)),HR.o,HG.o⟩
   case measure=>simp [intOf]
  ·have HV:Hd (VA A a b c ⟨#[48]⟩ ⟨#[]⟩ wr):=hv;have ix:=jp2 A wr;have cc:=HV.o.c2;have ff:=HV.o.f 2;clear hv;go_wp2;exact ⟨⟨Or.inr (Or.inr (Or.inr (⟨rfl,HV.o.set2 _⟩))),HR.o.other (by omega) _ _,gb_own0 HG.o (gb_set (gb_refl wr (some A)) _ _) HA.o⟩,by simp [intOf]⟩
  ·have HV:Hd (VA A a b (c+1) ⟨#[48]⟩ ⟨#[]⟩ wr):=hv;have e0:=HV.o.c0;have e1:=HV.o.c1;have e2:=HV.o.c2;have e3:=HV.o.c3;have e4:=HV.o.c4;have r0:=HR.o.c0;have r1:=HR.o.c1;have r2:=HR.o.c2;have r3:=HR.o.c3;have r4:=HR.o.c4;have ff:=HR.o.f;clear hv;go_wp2;have hr:=HR.o;unfold VA at hr;refine bodyPost_ret (results_cell_row rfl _ _ (A+1) 69 #[.int .i64 a,.int .i64 b,.int .i64 (c+1),.string ⟨#[48]⟩,.string ⟨#[]⟩] (0,0) _ rfl ?_ Tryz.underlying69 rfl (by kernel_rfl)) rfl ⟨rfl,gb_own0 HG.o (gb_set (gb_set (gb_set (gb_set (gb_set (gb_refl wr (some (A+1))) _ _) _ _) _ _) _ _) _ _) (by have:=HA.o;omega)⟩;simp [World.setCell,Array.getElem?_modify,hr]
open Go.RowKit
def PB (A:Nat) (a b c:Int) (P:ByteArray) (n:Int) (w:World):Prop:=w.heap[A]?=some (.cells #[.int .i64 a,.int .i64 b,.int .i64 c,.string P,.string ⟨#[]⟩,.int .i64 n] 163 (0,0))
theorem PB.cells {A:Nat} {a b c:Int} {P:ByteArray} {n:Int} {w:World} (h:PB A a b c P n w):w.cell? ⟨A,0,none⟩=some (.int .i64 a)/\w.cell? ⟨A,1,none⟩=some (.int .i64 b)/\w.cell? ⟨A,2,none⟩=some (.int .i64 c)/\w.cell? ⟨A,3,none⟩=some (.string P)/\w.cell? ⟨A,4,none⟩=some (.string ⟨#[]⟩)/\w.cell? ⟨A,5,none⟩=some (.int .i64 n) :=
 ⟨by rw [cOH h];rfl,by rw [cOH h];rfl,by rw [cOH h];rfl,by rw [cOH h];rfl,by rw [cOH h];rfl,by rw [cOH h];rfl⟩
theorem PB.grow {A:Nat} {a b c:Int} {P:ByteArray} {n:Int} {w w':World} (h:PB A a b c P n w) (hg:w.grownBy w' none):PB A a b c P n w':=by
 unfold PB at h ⊢;rw [hg.block A ((hqL h)) (by simp)];exact h
def SZ (B:Nat) (w:World):Prop:=w.heap[B]?=some (.cells #[.int .i64 0,.int .i64 0,.int .i64 0,.string ⟨#[]⟩,.string ⟨#[]⟩,.int .i64 0,.int .i64 0,.int .i64 0,.string ⟨#[]⟩,.string ⟨#[]⟩,.bool false] 110 (0,0))
theorem SZ.cells {B:Nat} {w:World} (h:SZ B w):w.cell? ⟨B,0,none⟩=some (.int .i64 0)/\w.cell? ⟨B,1,none⟩=some (.int .i64 0)/\w.cell? ⟨B,2,none⟩=some (.int .i64 0)/\w.cell? ⟨B,3,none⟩=some (.string ⟨#[]⟩)/\w.cell? ⟨B,4,none⟩=some (.string ⟨#[]⟩)/\w.cell? ⟨B,5,none⟩=some (.int .i64 0)/\w.cell? ⟨B,6,none⟩=some (.int .i64 0)/\w.cell? ⟨B,7,none⟩=some (.int .i64 0)/\w.cell? ⟨B,8,none⟩=some (.string ⟨#[]⟩)/\w.cell? ⟨B,9,none⟩=some (.string ⟨#[]⟩)/\w.cell? ⟨B,10,none⟩=some (.bool false) :=
 ⟨by rw [cOH h];rfl,by rw [cOH h];rfl,by rw [cOH h];rfl,by rw [cOH h];rfl,by rw [cOH h];rfl,by rw [cOH h];rfl,by rw [cOH h];rfl,by rw [cOH h];rfl,by rw [cOH h];rfl,by rw [cOH h];rfl,by rw [cOH h];rfl⟩
theorem SZ.f {B:Nat} {w:World} (h:SZ B w) (o:Nat):w.frozen? ⟨B,o,none⟩=false:=Lib.frozen_of_heap h o
theorem SZ.grow {B:Nat} {w w':World} (h:SZ B w) (hg:w.grownBy w' none):SZ B w':=by
 unfold SZ at h ⊢;rw [hg.block B ((hqL h)) (by simp)];exact h
theorem gb_setC {w x:World} {B:Nat} (h:w.grownBy x none) (hB:w.heap.size<=B) {o:Nat} {v:Value}:w.grownBy (x.setCell ⟨B,o,none⟩ v) none:=by
 refine ⟨h.os,h.tape,h.output,by simpa [World.setCell] using h.size,fun k hk hn=>?_⟩;rw [<-h.block k hk hn];exact heap_setCell_other x _ k v (by simp;omega)
theorem cell_drew (w:World) (p:Addr):w.drew.cell? p=w.cell? p:=rfl
theorem cell_far {A B:Nat} (h:A ≠ B) (w:World) (o:Nat) (x:Value) (k:Nat):(w.setCell ⟨B,o,none⟩ x).cell? ⟨A,k,none⟩=w.cell? ⟨A,k,none⟩:=by
 unfold World.cell?;rw [heap_setCell_other w _ A x (by simpa using h)]
theorem keep5p {p0 p1 p2 p3 p4:Addr} {c0 c1 c2 c3 c4:Value} {w w':World} (hg:w.grownBy w' none) (h:w.cell? p0=some c0/\w.cell? p1=some c1/\w.cell? p2=some c2/\w.cell? p3=some c3/\w.cell? p4=some c4):w'.cell? p0=some c0/\w'.cell? p1=some c1/\w'.cell? p2=some c2/\w'.cell? p3=some c3/\w'.cell? p4=some c4:=by
 obtain ⟨h0,h1,h2,h3,h4⟩:=h;exact ⟨hg.cell h0 (by simp),hg.cell h1 (by simp),hg.cell h2 (by simp),hg.cell h3 (by simp),hg.cell h4 (by simp)⟩
set_option maxRecDepth 100000 in
theorem leading0_any (a b c:Int) (n:Int) (P:ByteArray) (w:World) (q:¬ a=0) :
  Calls Tryz.prog 131 #[.agg #[.int .i64 a,.int .i64 b,.int .i64 c,.string P,.string ⟨#[]⟩,.int .i64 n]] w fun e w'=>e=.returned (.int .i64 1)/\w.grownBy w' none:=by
 go_enter Tryz.func131,Tryz.ntmps131;go_wp2_with (first | (go_at_call 133;refine (numbersOf_any _ _ (by simp)).mono ?_));rintro e w1 ⟨rfl,hg⟩;obtain ⟨A,hA⟩:=nm (w.heap.size);have HV:Hd (PB A a b c P n w1):=by
  refine PB.grow (w:=w.alloc (.cells #[.int .i64 a,.int .i64 b,.int .i64 c,.string P,.string ⟨#[]⟩,.int .i64 n] 163)) ?_ hg;unfold PB;rw [<-hA];exact heap_alloc_new w _
 have HG:Hd (w.grownBy w1 none):=gb_trans (gb_alloc (gb_refl w none) _) hg
 try rw [hA]
 clear hA hg;go_wp2;go_loopw [7] (fun vi wr=>(vi=.int .i64 0)/\PB A a b c P n wr/\w.grownBy wr none) (fun vi _=>3 - (intOf vi).toNat)
 case atStart=>exact ⟨rfl,HV.o,HG.o⟩
 case round =>
  obtain ⟨hs,hv,hg⟩:=hrel;clear HV HG;have HV:Hd (PB A a b c P n wr):=hv;have HG:Hd (w.grownBy wr none):=hg;clear hv hg;obtain ⟨e0,e1,e2,e3,e4,e5⟩:=HV.o.cells
  rcases hs with rfl
  ·have ix:=jp0 A wr;go_wp2;go_ret;exact ⟨rfl,HG.o⟩
set_option maxRecDepth 100000 in
theorem leading1_any (b c:Int) (n:Int) (P:ByteArray) (w:World) (q:¬ b=0) :
  Calls Tryz.prog 131 #[.agg #[.int .i64 0,.int .i64 b,.int .i64 c,.string P,.string ⟨#[]⟩,.int .i64 n]] w fun e w'=>e=.returned (.int .i64 2)/\w.grownBy w' none:=by
 go_enter Tryz.func131,Tryz.ntmps131;go_wp2_with (first | (go_at_call 133;refine (numbersOf_any _ _ (by simp)).mono ?_));rintro e w1 ⟨rfl,hg⟩;obtain ⟨A,hA⟩:=nm (w.heap.size);have HV:Hd (PB A 0 b c P n w1):=by
  refine PB.grow (w:=w.alloc (.cells #[.int .i64 0,.int .i64 b,.int .i64 c,.string P,.string ⟨#[]⟩,.int .i64 n] 163)) ?_ hg;unfold PB;rw [<-hA];exact heap_alloc_new w _
 have HG:Hd (w.grownBy w1 none):=gb_trans (gb_alloc (gb_refl w none) _) hg
 try rw [hA]
 clear hA hg;go_wp2;go_loopw [7] (fun vi wr=>(vi=.int .i64 0\/vi=.int .i64 1)/\PB A 0 b c P n wr/\w.grownBy wr none) (fun vi _=>3 - (intOf vi).toNat)
 case atStart=>exact ⟨Or.inl rfl,HV.o,HG.o⟩
 case round =>
  obtain ⟨hs,hv,hg⟩:=hrel;clear HV HG;have HV:Hd (PB A 0 b c P n wr):=hv;have HG:Hd (w.grownBy wr none):=hg;clear hv hg;obtain ⟨e0,e1,e2,e3,e4,e5⟩:=HV.o.cells
  rcases hs with rfl | rfl
  ·have ix:=jp0 A wr;go_wp2;go_roundw
   case rel=>exact ⟨Or.inr (rfl),HV.o,HG.o⟩
   case measure=>simp [intOf]
  ·have ix:=jp1 A wr;go_wp2;go_ret;exact ⟨rfl,HG.o⟩
set_option maxRecDepth 100000 in
theorem leading2_any (c:Int) (n:Int) (P:ByteArray) (w:World) (q:¬ c=0) :
  Calls Tryz.prog 131 #[.agg #[.int .i64 0,.int .i64 0,.int .i64 c,.string P,.string ⟨#[]⟩,.int .i64 n]] w fun e w'=>e=.returned (.int .i64 3)/\w.grownBy w' none:=by
 go_enter Tryz.func131,Tryz.ntmps131;go_wp2_with (first | (go_at_call 133;refine (numbersOf_any _ _ (by simp)).mono ?_));rintro e w1 ⟨rfl,hg⟩;obtain ⟨A,hA⟩:=nm (w.heap.size);have HV:Hd (PB A 0 0 c P n w1):=by
  refine PB.grow (w:=w.alloc (.cells #[.int .i64 0,.int .i64 0,.int .i64 c,.string P,.string ⟨#[]⟩,.int .i64 n] 163)) ?_ hg;unfold PB;rw [<-hA];exact heap_alloc_new w _
 have HG:Hd (w.grownBy w1 none):=gb_trans (gb_alloc (gb_refl w none) _) hg
 try rw [hA]
 clear hA hg;go_wp2;go_loopw [7] (fun vi wr=>(vi=.int .i64 0\/vi=.int .i64 1\/vi=.int .i64 2)/\PB A 0 0 c P n wr/\w.grownBy wr none) (fun vi _=>3 - (intOf vi).toNat)
 case atStart=>exact ⟨Or.inl rfl,HV.o,HG.o⟩
 case round =>
  obtain ⟨hs,hv,hg⟩:=hrel;clear HV HG;have HV:Hd (PB A 0 0 c P n wr):=hv;have HG:Hd (w.grownBy wr none):=hg;clear hv hg;obtain ⟨e0,e1,e2,e3,e4,e5⟩:=HV.o.cells
  rcases hs with rfl | rfl | rfl
  ·have ix:=jp0 A wr;go_wp2;go_roundw
   case rel=>exact ⟨Or.inr (Or.inl rfl),HV.o,HG.o⟩
   case measure=>simp [intOf]
  ·have ix:=jp1 A wr;go_wp2;go_roundw
   case rel=>exact ⟨Or.inr (Or.inr (rfl)),HV.o,HG.o⟩
   case measure=>simp [intOf]
  ·have ix:=jp2 A wr;go_wp2;go_ret;exact ⟨rfl,HG.o⟩
set_option maxRecDepth 100000 in
theorem leading3_any (n:Int) (P:ByteArray) (w:World) :
  Calls Tryz.prog 131 #[.agg #[.int .i64 0,.int .i64 0,.int .i64 0,.string P,.string ⟨#[]⟩,.int .i64 n]] w fun e w'=>e=.returned (.int .i64 n)/\w.grownBy w' none:=by
 go_enter Tryz.func131,Tryz.ntmps131;go_wp2_with (first | (go_at_call 133;refine (numbersOf_any _ _ (by simp)).mono ?_));rintro e w1 ⟨rfl,hg⟩;obtain ⟨A,hA⟩:=nm (w.heap.size);have HV:Hd (PB A 0 0 0 P n w1):=by
  refine PB.grow (w:=w.alloc (.cells #[.int .i64 0,.int .i64 0,.int .i64 0,.string P,.string ⟨#[]⟩,.int .i64 n] 163)) ?_ hg;unfold PB;rw [<-hA];exact heap_alloc_new w _
 have HG:Hd (w.grownBy w1 none):=gb_trans (gb_alloc (gb_refl w none) _) hg
 try rw [hA]
 clear hA hg;go_wp2;go_loopw [7] (fun vi wr=>(vi=.int .i64 0\/vi=.int .i64 1\/vi=.int .i64 2\/vi=.int .i64 3)/\PB A 0 0 0 P n wr/\w.grownBy wr none) (fun vi _=>3 - (intOf vi).toNat)
 case atStart=>exact ⟨Or.inl rfl,HV.o,HG.o⟩
 case round =>
  obtain ⟨hs,hv,hg⟩:=hrel;clear HV HG;have HV:Hd (PB A 0 0 0 P n wr):=hv;have HG:Hd (w.grownBy wr none):=hg;clear hv hg;obtain ⟨e0,e1,e2,e3,e4,e5⟩:=HV.o.cells
  rcases hs with rfl | rfl | rfl | rfl
  ·have ix:=jp0 A wr;go_wp2;go_roundw
   case rel=>exact ⟨Or.inr (Or.inl rfl),HV.o,HG.o⟩
   case measure=>simp [intOf]
  ·have ix:=jp1 A wr;go_wp2;go_roundw
   case rel=>exact ⟨Or.inr (Or.inr (Or.inl rfl)),HV.o,HG.o⟩
   case measure=>simp [intOf]
  ·have ix:=jp2 A wr;go_wp2;go_roundw
   case rel=>exact ⟨Or.inr (Or.inr (Or.inr (rfl))),HV.o,HG.o⟩
   case measure=>simp [intOf]
  ·go_wp2;go_ret;exact ⟨rfl,HG.o⟩
set_option maxRecDepth 100000 in
theorem alike0_any (a b c n:Int) (P:ByteArray) (w:World) (ha:0<=a/\a<=999999999) (hb:0<=b/\b<=999999999) (hc:0<=c/\c<=999999999) :
  Calls Tryz.prog 130 #[.agg #[.int .i64 a,.int .i64 b,.int .i64 c,.string P,.string ⟨#[]⟩,.int .i64 n],.int .i64 0] w fun e w'=>e=.returned (.agg #[.int .i64 a,.int .i64 b,.int .i64 c,.string P,.string ⟨#[]⟩,.int .i64 0,.int .i64 0,.int .i64 0,.string ⟨#[]⟩,.string ⟨#[]⟩,.bool true])/\w.grownBy w' none:=by
 clear ha hb hc;go_enter Tryz.func130,Tryz.ntmps130;go_wp2;refine bodyPost_ret (results_cell_row rfl _ _ (w.heap.size+1) 110 #[.int .i64 a,.int .i64 b,.int .i64 c,.string P,.string ⟨#[]⟩,.int .i64 0,.int .i64 0,.int .i64 0,.string ⟨#[]⟩,.string ⟨#[]⟩,.bool true] (0,0) _ rfl ?_ Tryz.underlying110 rfl (by kernel_rfl)) rfl ⟨rfl,gb_alloc (gb_alloc (gb_refl w none) _) _⟩;have:=heap_alloc_new (w.alloc (.cells #[.int .i64 a,.int .i64 b,.int .i64 c,.string P,.string ⟨#[]⟩,.int .i64 n] 163)) (.cells #[.int .i64 a,.int .i64 b,.int .i64 c,.string P,.string ⟨#[]⟩,.int .i64 0,.int .i64 0,.int .i64 0,.string ⟨#[]⟩,.string ⟨#[]⟩,.bool true] 110);rw [show (w.alloc (.cells #[.int .i64 a,.int .i64 b,.int .i64 c,.string P,.string ⟨#[]⟩,.int .i64 n] 163)).heap.size=w.heap.size+1 by simp] at this;exact this
set_option maxRecDepth 100000 in
theorem alike1_any (a b c n:Int) (P:ByteArray) (w:World) (ha:0<=a/\a<=999999999) (hb:0<=b/\b<=999999999) (hc:0<=c/\c<=999999999) :
  Calls Tryz.prog 130 #[.agg #[.int .i64 a,.int .i64 b,.int .i64 c,.string P,.string ⟨#[]⟩,.int .i64 n],.int .i64 1] w fun e w'=>e=.returned (.agg #[.int .i64 a,.int .i64 b,.int .i64 c,.string P,.string ⟨#[]⟩,.int .i64 (a+1),.int .i64 0,.int .i64 0,.string ⟨#[48]⟩,.string ⟨#[]⟩,.bool false])/\w.grownBy w' none:=by
 have CB:Hd (∀w,Calls Tryz.prog 144 #[.agg #[.int .i64 a,.int .i64 b,.int .i64 c,.string P,.string ⟨#[]⟩],.int .i64 1] w fun e w'=>e=.returned (.agg #[.int .i64 (a+1),.int .i64 0,.int .i64 0,.string ⟨#[48]⟩,.string ⟨#[]⟩])/\w.grownBy w' none):=fun w=>behind1_any a b c P w ha hb hc
 clear ha hb hc;go_enter Tryz.func130,Tryz.ntmps130;go_wp2_with (fail);obtain ⟨A,hA⟩:=nm (w.heap.size);obtain ⟨W,hW⟩:=nm ((w.alloc (.cells #[.int .i64 a,.int .i64 b,.int .i64 c,.string P,.string ⟨#[]⟩,.int .i64 n] 163)).alloc (.cells #[.int .i64 0,.int .i64 0,.int .i64 0,.string ⟨#[]⟩,.string ⟨#[]⟩,.int .i64 0,.int .i64 0,.int .i64 0,.string ⟨#[]⟩,.string ⟨#[]⟩,.bool false] 110));have HV:Hd (PB A a b c P n W):=by
  show PB A a b c P n W;unfold PB;rw [<-hW,<-hA,Lib.alloc_old _ _ _ (by simp)];exact heap_alloc_new w _
 have HZ:Hd (SZ (A+1) W):=by
  show SZ (A+1) W;unfold SZ;have:=heap_alloc_new (w.alloc (.cells #[.int .i64 a,.int .i64 b,.int .i64 c,.string P,.string ⟨#[]⟩,.int .i64 n] 163)) (.cells #[.int .i64 0,.int .i64 0,.int .i64 0,.string ⟨#[]⟩,.string ⟨#[]⟩,.int .i64 0,.int .i64 0,.int .i64 0,.string ⟨#[]⟩,.string ⟨#[]⟩,.bool false] 110);rw [<-hW,<-hA];simpa using this
 have HG:Hd (w.grownBy W none):=by show w.grownBy W none;rw [<-hW];exact gb_alloc (gb_alloc (gb_refl w none) _) _
 have HB:Hd (w.heap.size<=A+1):=by show _<=_;omega
 try rw [hW]
 try rw [hA]
 clear hW hA;obtain ⟨e0,e1,e2,e3,e4,e5⟩:=HV.o.cells
 go_region_held3 (fun w'=>w'.cell? ⟨A,0,none⟩=some (.int .i64 a)/\w'.cell? ⟨A,1,none⟩=some (.int .i64 b)/\w'.cell? ⟨A,2,none⟩=some (.int .i64 c)/\w'.cell? ⟨A,3,none⟩=some (.string P)/\w'.cell? ⟨A,4,none⟩=some (.string ⟨#[]⟩)) ((first | (simp only [cell_drew,cell_far (Nat.ne_of_lt (Nat.lt_succ_self A))];assumption) | (simp only [cell_drew];exact ⟨e0,e1,e2,e3,e4⟩) | exact keep5p (by assumption) (by assumption))) (first | (go_at_call 144;refine (CB.o _).mono ?_;rintro e w1 ⟨rfl,hg1⟩;have hz1:SZ (A+1) w1:=HZ.o.grow (gb_undrew hg1);obtain ⟨z0,z1,z2,z3,z4,z5,z6,z7,z8,z9,z10⟩:=hz1.cells;have zf:=hz1.f))
 have HZ1:Hd (SZ (A+1) w1):=hz1;have HGW:Hd (w.grownBy w1 none):=gb_trans HG.o (gb_undrew hg1);clear z0 z1 z2 z3 z4 z5 z6 z7 z8 z9 z10 zf hz1 hg1 e0 e1 e2 e3 e4 e5;go_wp2;have hrw:=HZ1.o;unfold SZ at hrw;have hb:=HB.o;refine bodyPost_ret (results_cell_row rfl _ _ (A+1) 110 #[.int .i64 a,.int .i64 b,.int .i64 c,.string P,.string ⟨#[]⟩,.int .i64 (a+1),.int .i64 0,.int .i64 0,.string ⟨#[48]⟩,.string ⟨#[]⟩,.bool false] (0,0) _ rfl ?_ Tryz.underlying110 rfl (by kernel_rfl)) rfl ⟨rfl,by repeat (first | refine gb_setC ?_ hb | exact HGW.o)⟩;simp [World.setCell,Array.getElem?_modify,hrw]
set_option maxRecDepth 100000 in
theorem alike2_any (a b c n:Int) (P:ByteArray) (w:World) (ha:0<=a/\a<=999999999) (hb:0<=b/\b<=999999999) (hc:0<=c/\c<=999999999) :
  Calls Tryz.prog 130 #[.agg #[.int .i64 a,.int .i64 b,.int .i64 c,.string P,.string ⟨#[]⟩,.int .i64 n],.int .i64 2] w fun e w'=>e=.returned (.agg #[.int .i64 a,.int .i64 b,.int .i64 c,.string P,.string ⟨#[]⟩,.int .i64 a,.int .i64 (b+1),.int .i64 0,.string ⟨#[48]⟩,.string ⟨#[]⟩,.bool false])/\w.grownBy w' none:=by
 have CB:Hd (∀w,Calls Tryz.prog 144 #[.agg #[.int .i64 a,.int .i64 b,.int .i64 c,.string P,.string ⟨#[]⟩],.int .i64 2] w fun e w'=>e=.returned (.agg #[.int .i64 a,.int .i64 (b+1),.int .i64 0,.string ⟨#[48]⟩,.string ⟨#[]⟩])/\w.grownBy w' none):=fun w=>behind2_any a b c P w ha hb hc
 clear ha hb hc;go_enter Tryz.func130,Tryz.ntmps130;go_wp2_with (fail);obtain ⟨A,hA⟩:=nm (w.heap.size);obtain ⟨W,hW⟩:=nm ((w.alloc (.cells #[.int .i64 a,.int .i64 b,.int .i64 c,.string P,.string ⟨#[]⟩,.int .i64 n] 163)).alloc (.cells #[.int .i64 0,.int .i64 0,.int .i64 0,.string ⟨#[]⟩,.string ⟨#[]⟩,.int .i64 0,.int .i64 0,.int .i64 0,.string ⟨#[]⟩,.string ⟨#[]⟩,.bool false] 110));have HV:Hd (PB A a b c P n W):=by
  show PB A a b c P n W;unfold PB;rw [<-hW,<-hA,Lib.alloc_old _ _ _ (by simp)];exact heap_alloc_new w _
 have HZ:Hd (SZ (A+1) W):=by
  show SZ (A+1) W;unfold SZ;have:=heap_alloc_new (w.alloc (.cells #[.int .i64 a,.int .i64 b,.int .i64 c,.string P,.string ⟨#[]⟩,.int .i64 n] 163)) (.cells #[.int .i64 0,.int .i64 0,.int .i64 0,.string ⟨#[]⟩,.string ⟨#[]⟩,.int .i64 0,.int .i64 0,.int .i64 0,.string ⟨#[]⟩,.string ⟨#[]⟩,.bool false] 110);rw [<-hW,<-hA];simpa using this
 have HG:Hd (w.grownBy W none):=by show w.grownBy W none;rw [<-hW];exact gb_alloc (gb_alloc (gb_refl w none) _) _
 have HB:Hd (w.heap.size<=A+1):=by show _<=_;omega
 try rw [hW]
 try rw [hA]
 clear hW hA;obtain ⟨e0,e1,e2,e3,e4,e5⟩:=HV.o.cells
 go_region_held3 (fun w'=>w'.cell? ⟨A,0,none⟩=some (.int .i64 a)/\w'.cell? ⟨A,1,none⟩=some (.int .i64 b)/\w'.cell? ⟨A,2,none⟩=some (.int .i64 c)/\w'.cell? ⟨A,3,none⟩=some (.string P)/\w'.cell? ⟨A,4,none⟩=some (.string ⟨#[]⟩)) ((first | (simp only [cell_drew,cell_far (Nat.ne_of_lt (Nat.lt_succ_self A))];assumption) | (simp only [cell_drew];exact ⟨e0,e1,e2,e3,e4⟩) | exact keep5p (by assumption) (by assumption))) (first | (go_at_call 144;refine (CB.o _).mono ?_;rintro e w1 ⟨rfl,hg1⟩;have hz1:SZ (A+1) w1:=HZ.o.grow (gb_undrew hg1);obtain ⟨z0,z1,z2,z3,z4,z5,z6,z7,z8,z9,z10⟩:=hz1.cells;have zf:=hz1.f))
 have HZ1:Hd (SZ (A+1) w1):=hz1;have HGW:Hd (w.grownBy w1 none):=gb_trans HG.o (gb_undrew hg1);clear z0 z1 z2 z3 z4 z5 z6 z7 z8 z9 z10 zf hz1 hg1 e0 e1 e2 e3 e4 e5;go_wp2;have hrw:=HZ1.o;unfold SZ at hrw;have hb:=HB.o;refine bodyPost_ret (results_cell_row rfl _ _ (A+1) 110 #[.int .i64 a,.int .i64 b,.int .i64 c,.string P,.string ⟨#[]⟩,.int .i64 a,.int .i64 (b+1),.int .i64 0,.string ⟨#[48]⟩,.string ⟨#[]⟩,.bool false] (0,0) _ rfl ?_ Tryz.underlying110 rfl (by kernel_rfl)) rfl ⟨rfl,by repeat (first | refine gb_setC ?_ hb | exact HGW.o)⟩;simp [World.setCell,Array.getElem?_modify,hrw]
set_option maxRecDepth 100000 in
theorem alike3_any (a b c n:Int) (P:ByteArray) (w:World) (ha:0<=a/\a<=999999999) (hb:0<=b/\b<=999999999) (hc:0<=c/\c<=999999999) :
  Calls Tryz.prog 130 #[.agg #[.int .i64 a,.int .i64 b,.int .i64 c,.string P,.string ⟨#[]⟩,.int .i64 n],.int .i64 3] w fun e w'=>e=.returned (.agg #[.int .i64 a,.int .i64 b,.int .i64 c,.string P,.string ⟨#[]⟩,.int .i64 a,.int .i64 b,.int .i64 (c+1),.string ⟨#[48]⟩,.string ⟨#[]⟩,.bool false])/\w.grownBy w' none:=by
 have CB:Hd (∀w,Calls Tryz.prog 144 #[.agg #[.int .i64 a,.int .i64 b,.int .i64 c,.string P,.string ⟨#[]⟩],.int .i64 3] w fun e w'=>e=.returned (.agg #[.int .i64 a,.int .i64 b,.int .i64 (c+1),.string ⟨#[48]⟩,.string ⟨#[]⟩])/\w.grownBy w' none):=fun w=>behind3_any a b c P w ha hb hc
 clear ha hb hc;go_enter Tryz.func130,Tryz.ntmps130;go_wp2_with (fail);obtain ⟨A,hA⟩:=nm (w.heap.size);obtain ⟨W,hW⟩:=nm ((w.alloc (.cells #[.int .i64 a,.int .i64 b,.int .i64 c,.string P,.string ⟨#[]⟩,.int .i64 n] 163)).alloc (.cells #[.int .i64 0,.int .i64 0,.int .i64 0,.string ⟨#[]⟩,.string ⟨#[]⟩,.int .i64 0,.int .i64 0,.int .i64 0,.string ⟨#[]⟩,.string ⟨#[]⟩,.bool false] 110));have HV:Hd (PB A a b c P n W):=by
  show PB A a b c P n W;unfold PB;rw [<-hW,<-hA,Lib.alloc_old _ _ _ (by simp)];exact heap_alloc_new w _
 have HZ:Hd (SZ (A+1) W):=by
  show SZ (A+1) W;unfold SZ;have:=heap_alloc_new (w.alloc (.cells #[.int .i64 a,.int .i64 b,.int .i64 c,.string P,.string ⟨#[]⟩,.int .i64 n] 163)) (.cells #[.int .i64 0,.int .i64 0,.int .i64 0,.string ⟨#[]⟩,.string ⟨#[]⟩,.int .i64 0,.int .i64 0,.int .i64 0,.string ⟨#[]⟩,.string ⟨#[]⟩,.bool false] 110);rw [<-hW,<-hA];simpa using this
 have HG:Hd (w.grownBy W none):=by show w.grownBy W none;rw [<-hW];exact gb_alloc (gb_alloc (gb_refl w none) _) _
 have HB:Hd (w.heap.size<=A+1):=by show _<=_;omega
 try rw [hW]
 try rw [hA]
 clear hW hA;obtain ⟨e0,e1,e2,e3,e4,e5⟩:=HV.o.cells
 go_region_held3 (fun w'=>w'.cell? ⟨A,0,none⟩=some (.int .i64 a)/\w'.cell? ⟨A,1,none⟩=some (.int .i64 b)/\w'.cell? ⟨A,2,none⟩=some (.int .i64 c)/\w'.cell? ⟨A,3,none⟩=some (.string P)/\w'.cell? ⟨A,4,none⟩=some (.string ⟨#[]⟩)) ((first | (simp only [cell_drew,cell_far (Nat.ne_of_lt (Nat.lt_succ_self A))];assumption) | (simp only [cell_drew];exact ⟨e0,e1,e2,e3,e4⟩) | exact keep5p (by assumption) (by assumption))) (first | (go_at_call 144;refine (CB.o _).mono ?_;rintro e w1 ⟨rfl,hg1⟩;have hz1:SZ (A+1) w1:=HZ.o.grow (gb_undrew hg1);obtain ⟨z0,z1,z2,z3,z4,z5,z6,z7,z8,z9,z10⟩:=hz1.cells;have zf:=hz1.f))
 have HZ1:Hd (SZ (A+1) w1):=hz1;have HGW:Hd (w.grownBy w1 none):=gb_trans HG.o (gb_undrew hg1);clear z0 z1 z2 z3 z4 z5 z6 z7 z8 z9 z10 zf hz1 hg1 e0 e1 e2 e3 e4 e5;go_wp2;have hrw:=HZ1.o;unfold SZ at hrw;have hb:=HB.o;refine bodyPost_ret (results_cell_row rfl _ _ (A+1) 110 #[.int .i64 a,.int .i64 b,.int .i64 c,.string P,.string ⟨#[]⟩,.int .i64 a,.int .i64 b,.int .i64 (c+1),.string ⟨#[48]⟩,.string ⟨#[]⟩,.bool false] (0,0) _ rfl ?_ Tryz.underlying110 rfl (by kernel_rfl)) rfl ⟨rfl,by repeat (first | refine gb_setC ?_ hb | exact HGW.o)⟩;simp [World.setCell,Array.getElem?_modify,hrw]
end Go.Proofs.YticgahdffjnabaaGreatDoor
