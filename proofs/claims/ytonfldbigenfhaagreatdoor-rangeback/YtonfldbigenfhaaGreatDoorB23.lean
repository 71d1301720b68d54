import Derived.Test.YtonfldbigenfhaaGreatDoorB22
import Derived.Below
namespace Go.Proofs.YtonfldbigenfhaaGreatDoor
open Go.RowKit
set_option linter.unusedVariables false
def VA (A:Nat) (x1 x2 x3:Int) (P B:ByteArray) (w:World):Prop:=w.heap[A]?=some (.cells #[.int .i64 x1,.int .i64 x2,.int .i64 x3,.string P,.string B] 35 (0,0))
theorem VA.c0 {A:Nat} {x1 x2 x3:Int} {P B:ByteArray} {w:World} (h:VA A x1 x2 x3 P B w):w.cell? ⟨A,0,none⟩=some (.int .i64 x1):=by rw [Lib.cell_of_heap h];rfl
theorem VA.c1 {A:Nat} {x1 x2 x3:Int} {P B:ByteArray} {w:World} (h:VA A x1 x2 x3 P B w):w.cell? ⟨A,1,none⟩=some (.int .i64 x2):=by rw [Lib.cell_of_heap h];rfl
theorem VA.c2 {A:Nat} {x1 x2 x3:Int} {P B:ByteArray} {w:World} (h:VA A x1 x2 x3 P B w):w.cell? ⟨A,2,none⟩=some (.int .i64 x3):=by rw [Lib.cell_of_heap h];rfl
theorem VA.c3 {A:Nat} {x1 x2 x3:Int} {P B:ByteArray} {w:World} (h:VA A x1 x2 x3 P B w):w.cell? ⟨A,3,none⟩=some (.string P):=by rw [Lib.cell_of_heap h];rfl
theorem VA.c4 {A:Nat} {x1 x2 x3:Int} {P B:ByteArray} {w:World} (h:VA A x1 x2 x3 P B w):w.cell? ⟨A,4,none⟩=some (.string B):=by rw [Lib.cell_of_heap h];rfl
theorem VA.other {A V:Nat} {x1 x2 x3:Int} {P B:ByteArray} {w:World} (h:VA A x1 x2 x3 P B w) (hn:A ≠ V) (o:Nat) (x:Value):VA A x1 x2 x3 P B (w.setCell ⟨V,o,none⟩ x):=by
 unfold VA at h ⊢
 rw [heap_setCell_other w _ A x (by simpa using hn)];exact h
theorem VA.f {A:Nat} {x1 x2 x3:Int} {P B:ByteArray} {w:World} (h:VA A x1 x2 x3 P B w) (o:Nat):w.frozen? ⟨A,o,none⟩=false:=Lib.frozen_of_heap h o
theorem VA.grow {A:Nat} {x1 x2 x3:Int} {P B:ByteArray} {w w':World} (h:VA A x1 x2 x3 P B w) (hg:w.grownBy w' none):VA A x1 x2 x3 P B w':=by
 unfold VA at h ⊢
 rw [hg.block A ((Array.getElem?_eq_some_iff.1 h).1) (by simp)];exact h
theorem VA.set0 {A:Nat} {x1 x2 x3:Int} {P B:ByteArray} {w:World} (h:VA A x1 x2 x3 P B w) (y:Int):VA A y x2 x3 P B (w.setCell ⟨A,0,none⟩ (.int .i64 y)):=by
 unfold VA at h ⊢;simp [World.setCell,Array.getElem?_modify,h]
theorem VA.set1 {A:Nat} {x1 x2 x3:Int} {P B:ByteArray} {w:World} (h:VA A x1 x2 x3 P B w) (y:Int):VA A x1 y x3 P B (w.setCell ⟨A,1,none⟩ (.int .i64 y)):=by
 unfold VA at h ⊢;simp [World.setCell,Array.getElem?_modify,h]
theorem VA.set2 {A:Nat} {x1 x2 x3:Int} {P B:ByteArray} {w:World} (h:VA A x1 x2 x3 P B w) (y:Int):VA A x1 x2 y P B (w.setCell ⟨A,2,none⟩ (.int .i64 y)):=by
 unfold VA at h ⊢;simp [World.setCell,Array.getElem?_modify,h]
theorem VA.set3 {A:Nat} {x1 x2 x3:Int} {P B:ByteArray} {w:World} (h:VA A x1 x2 x3 P B w) (y:ByteArray):VA A x1 x2 x3 y B (w.setCell ⟨A,3,none⟩ (.string y)):=by
 unfold VA at h ⊢;simp [World.setCell,Array.getElem?_modify,h]
theorem jp0 (v:Nat) (w:World):(Instr.index 181 (.agg #[.pointer (some ⟨v,0,none⟩),.pointer (some ⟨v,1,none⟩),.pointer (some ⟨v,2,none⟩)]) (.int .i64 0)).run Tryz.prog w=.ok (.pointer (some ⟨v,0,none⟩)) w:=by kernel_rfl
theorem jp1 (v:Nat) (w:World):(Instr.index 181 (.agg #[.pointer (some ⟨v,0,none⟩),.pointer (some ⟨v,1,none⟩),.pointer (some ⟨v,2,none⟩)]) (.int .i64 1)).run Tryz.prog w=.ok (.pointer (some ⟨v,1,none⟩)) w:=by kernel_rfl
theorem jp2 (v:Nat) (w:World):(Instr.index 181 (.agg #[.pointer (some ⟨v,0,none⟩),.pointer (some ⟨v,1,none⟩),.pointer (some ⟨v,2,none⟩)]) (.int .i64 2)).run Tryz.prog w=.ok (.pointer (some ⟨v,2,none⟩)) w:=by kernel_rfl
set_option maxRecDepth 100000 in
set_option maxHeartbeats 1600000 in
theorem behind1_any (a b c:Int) (P:ByteArray) (w:World) (ha:0<=a/\a<=999999999) (hb:0<=b/\b<=999999999) (hc:0<=c/\c<=999999999) :
  Calls Tryz.prog 159 #[.agg #[.int .i64 a,.int .i64 b,.int .i64 c,.string P,.string ⟨#[]⟩],.int .i64 1] w fun e w'=>e=.returned (.agg #[.int .i64 (a+1),.int .i64 0,.int .i64 0,.string ⟨#[48]⟩,.string ⟨#[]⟩])/\w.grownBy w' none:=by
 go_enter Tryz.func159,Tryz.ntmps159
 go_wp2_with (first | (go_at_call 132;refine (numbersOf_any _ _ (by simp;omega)).mono ?_))
 rintro e w1 ⟨rfl,hg⟩
 obtain ⟨A,hA⟩:∃A,w.heap.size=A:=⟨_,rfl⟩
 have HV:Hid (VA A a b c ⟨#[48]⟩ ⟨#[]⟩ w1):=by
  refine VA.grow (w:=(w.alloc (.cells #[.int .i64 a,.int .i64 b,.int .i64 c,.string ⟨#[48]⟩,.string ⟨#[]⟩] 35)).alloc (.cells #[.int .i64 0,.int .i64 0,.int .i64 0,.string ⟨#[]⟩,.string ⟨#[]⟩] 35)) ?_ hg
  unfold VA
  rw [<-hA,Lib.alloc_old _ _ _ (by simp)]
  exact heap_alloc_new w _
 have HR:Hid (VA (A+1) 0 0 0 ⟨#[]⟩ ⟨#[]⟩ w1):=by
  refine VA.grow (w:=(w.alloc (.cells #[.int .i64 a,.int .i64 b,.int .i64 c,.string ⟨#[48]⟩,.string ⟨#[]⟩] 35)).alloc (.cells #[.int .i64 0,.int .i64 0,.int .i64 0,.string ⟨#[]⟩,.string ⟨#[]⟩] 35)) ?_ hg
  have:=heap_alloc_new (w.alloc (.cells #[.int .i64 a,.int .i64 b,.int .i64 c,.string ⟨#[48]⟩,.string ⟨#[]⟩] 35)) (.cells #[.int .i64 0,.int .i64 0,.int .i64 0,.string ⟨#[]⟩,.string ⟨#[]⟩] 35)
  unfold VA
  rw [<-hA]
  simpa using this
 have HG:Hid (w.grownBy w1 none):=gb_trans (gb_alloc (gb_alloc (gb_refl w none) _) _) hg
 have HA:Hid (w.heap.size<=A):=by show _<=_;omega
 try rw [hA]
 clear hA hg
 go_wp2
 go_loopw [9] (fun vi wr=>((vi=.int .i64 0/\VA A a b c ⟨#[48]⟩ ⟨#[]⟩ wr)\/(vi=.int .i64 1/\VA A (a+1) b c ⟨#[48]⟩ ⟨#[]⟩ wr)\/(vi=.int .i64 2/\VA A (a+1) 0 c ⟨#[48]⟩ ⟨#[]⟩ wr)\/(vi=.int .i64 3/\VA A (a+1) 0 0 ⟨#[48]⟩ ⟨#[]⟩ wr))/\VA (A+1) 0 0 0 ⟨#[]⟩ ⟨#[]⟩ wr/\w.grownBy wr none) (fun vi _=>3 - (intOf vi).toNat)
 case atStart=>exact ⟨Or.inl ⟨rfl,HV.out⟩,HR.out,HG.out⟩
 case round =>
  obtain ⟨hs,hr,hg⟩:=hrel
  clear HV HR HG
  have HR:Hid (VA (A+1) 0 0 0 ⟨#[]⟩ ⟨#[]⟩ wr):=hr
  have HG:Hid (w.grownBy wr none):=hg
  clear hr hg
  rcases hs with ⟨rfl,hv⟩ | ⟨rfl,hv⟩ | ⟨rfl,hv⟩ | ⟨rfl,hv⟩
  ·have HV:Hid (VA A a b c ⟨#[48]⟩ ⟨#[]⟩ wr):=hv
   have ix:=jp0 A wr
   have cc:=HV.out.c0
   have ff:=HV.out.f 0
   clear hv
   go_wp2
   exact ⟨⟨Or.inr (Or.inl ⟨rfl,HV.out.set0 _⟩),HR.out.other (by omega) _ _,gb_own0 HG.out (gb_set (gb_refl wr (some A)) _ _) HA.out⟩,by simp [intOf]⟩
  ·have HV:Hid (VA A (a+1) b c ⟨#[48]⟩ ⟨#[]⟩ wr):=hv
   have ix:=jp1 A wr
   have cc:=HV.out.c1
   have ff:=HV.out.f 1
   clear hv
   go_wp2
   exact ⟨⟨Or.inr (Or.inr (Or.inl ⟨rfl,HV.out.set1 _⟩)),HR.out.other (by omega) _ _,gb_own0 HG.out (gb_set (gb_refl wr (some A)) _ _) HA.out⟩,by simp [intOf]⟩
  ·have HV:Hid (VA A (a+1) 0 c ⟨#[48]⟩ ⟨#[]⟩ wr):=hv
   have ix:=jp2 A wr
   have cc:=HV.out.c2
   have ff:=HV.out.f 2
   clear hv
   go_wp2
   exact ⟨⟨Or.inr (Or.inr (Or.inr (⟨rfl,HV.out.set2 _⟩))),HR.out.other (by omega) _ _,gb_own0 HG.out (gb_set (gb_refl wr (some A)) _ _) HA.out⟩,by simp [intOf]⟩
  ·have HV:Hid (VA A (a+1) 0 0 ⟨#[48]⟩ ⟨#[]⟩ wr):=hv
   have e0:=HV.out.c0
   have e1:=HV.out.c1
   have e2:=HV.out.c2
   have e3:=HV.out.c3
   have e4:=HV.out.c4
   have r0:=HR.out.c0
   have r1:=HR.out.c1
   have r2:=HR.out.c2
   have r3:=HR.out.c3
   have r4:=HR.out.c4
   have ff:=HR.out.f
   clear hv
   go_wp2
   have hr:=HR.out
   unfold VA at hr
   refine bodyPost_ret (results_cell_row rfl _ _ (A+1) 35 #[.int .i64 (a+1),.int .i64 0,.int .i64 0,.string ⟨#[48]⟩,.string ⟨#[]⟩] (0,0) _ rfl ?_ Tryz.underlying35 rfl (by kernel_rfl)) rfl ⟨rfl,gb_own0 HG.out (gb_set (gb_set (gb_set (gb_set (gb_set (gb_refl wr (some (A+1))) _ _) _ _) _ _) _ _) _ _) (by have:=HA.out;omega)⟩
   simp [World.setCell,Array.getElem?_modify,hr]
set_option maxRecDepth 100000 in
set_option maxHeartbeats 1600000 in
theorem behind2_any (a b c:Int) (P:ByteArray) (w:World) (ha:0<=a/\a<=999999999) (hb:0<=b/\b<=999999999) (hc:0<=c/\c<=999999999) :
  Calls Tryz.prog 159 #[.agg #[.int .i64 a,.int .i64 b,.int .i64 c,.string P,.string ⟨#[]⟩],.int .i64 2] w fun e w'=>e=.returned (.agg #[.int .i64 a,.int .i64 (b+1),.int .i64 0,.string ⟨#[48]⟩,.string ⟨#[]⟩])/\w.grownBy w' none:=by
 go_enter Tryz.func159,Tryz.ntmps159
 go_wp2_with (first | (go_at_call 132;refine (numbersOf_any _ _ (by simp;omega)).mono ?_))
 rintro e w1 ⟨rfl,hg⟩
 obtain ⟨A,hA⟩:∃A,w.heap.size=A:=⟨_,rfl⟩
 have HV:Hid (VA A a b c ⟨#[48]⟩ ⟨#[]⟩ w1):=by
  refine VA.grow (w:=(w.alloc (.cells #[.int .i64 a,.int .i64 b,.int .i64 c,.string ⟨#[48]⟩,.string ⟨#[]⟩] 35)).alloc (.cells #[.int .i64 0,.int .i64 0,.int .i64 0,.string ⟨#[]⟩,.string ⟨#[]⟩] 35)) ?_ hg
  unfold VA
  rw [<-hA,Lib.alloc_old _ _ _ (by simp)]
  exact heap_alloc_new w _
 have HR:Hid (VA (A+1) 0 0 0 ⟨#[]⟩ ⟨#[]⟩ w1):=by
  refine VA.grow (w:=(w.alloc (.cells #[.int .i64 a,.int .i64 b,.int .i64 c,.string ⟨#[48]⟩,.string ⟨#[]⟩] 35)).alloc (.cells #[.int .i64 0,.int .i64 0,.int .i64 0,.string ⟨#[]⟩,.string ⟨#[]⟩] 35)) ?_ hg
  have:=heap_alloc_new (w.alloc (.cells #[.int .i64 a,.int .i64 b,.int .i64 c,.string ⟨#[48]⟩,.string ⟨#[]⟩] 35)) (.cells #[.int .i64 0,.int .i64 0,.int .i64 0,.string ⟨#[]⟩,.string ⟨#[]⟩] 35)
  unfold VA
  rw [<-hA]
  simpa using this
 have HG:Hid (w.grownBy w1 none):=gb_trans (gb_alloc (gb_alloc (gb_refl w none) _) _) hg
 have HA:Hid (w.heap.size<=A):=by show _<=_;omega
 try rw [hA]
 clear hA hg
 go_wp2
 go_loopw [9] (fun vi wr=>((vi=.int .i64 0/\VA A a b c ⟨#[48]⟩ ⟨#[]⟩ wr)\/(vi=.int .i64 1/\VA A a b c ⟨#[48]⟩ ⟨#[]⟩ wr)\/(vi=.int .i64 2/\VA A a (b+1) c ⟨#[48]⟩ ⟨#[]⟩ wr)\/(vi=.int .i64 3/\VA A a (b+1) 0 ⟨#[48]⟩ ⟨#[]⟩ wr))/\VA (A+1) 0 0 0 ⟨#[]⟩ ⟨#[]⟩ wr/\w.grownBy wr none) (fun vi _=>3 - (intOf vi).toNat)
 case atStart=>exact ⟨Or.inl ⟨rfl,HV.out⟩,HR.out,HG.out⟩
 case round =>
  obtain ⟨hs,hr,hg⟩:=hrel
  clear HV HR HG
  have HR:Hid (VA (A+1) 0 0 0 ⟨#[]⟩ ⟨#[]⟩ wr):=hr
  have HG:Hid (w.grownBy wr none):=hg
  clear hr hg
  rcases hs with ⟨rfl,hv⟩ | ⟨rfl,hv⟩ | ⟨rfl,hv⟩ | ⟨rfl,hv⟩
  ·have HV:Hid (VA A a b c ⟨#[48]⟩ ⟨#[]⟩ wr):=hv
   have ix:=jp0 A wr
   have cc:=HV.out.c0
   have ff:=HV.out.f 0
   clear hv
   go_wp2
   go_roundw
   case rel=>exact ⟨Or.inr (Or.inl ⟨rfl,HV.out⟩),HR.out,HG.out⟩
   case measure=>simp [intOf]
  ·have HV:Hid (VA A a b c ⟨#[48]⟩ ⟨#[]⟩ wr):=hv
   have ix:=jp1 A wr
   have cc:=HV.out.c1
   have ff:=HV.out.f 1
   clear hv
   go_wp2
   exact ⟨⟨Or.inr (Or.inr (Or.inl ⟨rfl,HV.out.set1 _⟩)),HR.out.other (by omega) _ _,gb_own0 HG.out (gb_set (gb_refl wr (some A)) _ _) HA.out⟩,by simp [intOf]⟩
  ·have HV:Hid (VA A a (b+1) c ⟨#[48]⟩ ⟨#[]⟩ wr):=hv
   have ix:=jp2 A wr
   have cc:=HV.out.c2
   have ff:=HV.out.f 2
   clear hv
   go_wp2
   exact ⟨⟨Or.inr (Or.inr (Or.inr (⟨rfl,HV.out.set2 _⟩))),HR.out.other (by omega) _ _,gb_own0 HG.out (gb_set (gb_refl wr (some A)) _ _) HA.out⟩,by simp [intOf]⟩
  ·have HV:Hid (VA A a (b+1) 0 ⟨#[48]⟩ ⟨#[]⟩ wr):=hv
   have e0:=HV.out.c0
   have e1:=HV.out.c1
   have e2:=HV.out.c2
   have e3:=HV.out.c3
   have e4:=HV.out.c4
   have r0:=HR.out.c0
   have r1:=HR.out.c1
   have r2:=HR.out.c2
   have r3:=HR.out.c3
   have r4:=HR.out.c4
   have ff:=HR.out.f
   clear hv
   go_wp2
   have hr:=HR.out
   unfold VA at hr
   refine bodyPost_ret (results_cell_row rfl _ _ (A+1) 35 #[.int .i64 a,.int .i64 (b+1),.int .i64 0,.string ⟨#[48]⟩,.string ⟨#[]⟩] (0,0) _ rfl ?_ Tryz.underlying35 rfl (by kernel_rfl)) rfl ⟨rfl,gb_own0 HG.out (gb_set (gb_set (gb_set (gb_set (gb_set (gb_refl wr (some (A+1))) _ _) _ _) _ _) _ _) _ _) (by have:=HA.out;omega)⟩
   simp [World.setCell,Array.getElem?_modify,hr]
set_option maxRecDepth 100000 in
set_option maxHeartbeats 1600000 in
theorem behind3_any (a b c:Int) (P:ByteArray) (w:World) (ha:0<=a/\a<=999999999) (hb:0<=b/\b<=999999999) (hc:0<=c/\c<=999999999) :
  Calls Tryz.prog 159 #[.agg #[.int .i64 a,.int .i64 b,.int .i64 c,.string P,.string ⟨#[]⟩],.int .i64 3] w fun e w'=>e=.returned (.agg #[.int .i64 a,.int .i64 b,.int .i64 (c+1),.string ⟨#[48]⟩,.string ⟨#[]⟩])/\w.grownBy w' none:=by
 go_enter Tryz.func159,Tryz.ntmps159
 go_wp2_with (first | (go_at_call 132;refine (numbersOf_any _ _ (by simp;omega)).mono ?_))
 rintro e w1 ⟨rfl,hg⟩
 obtain ⟨A,hA⟩:∃A,w.heap.size=A:=⟨_,rfl⟩
 have HV:Hid (VA A a b c ⟨#[48]⟩ ⟨#[]⟩ w1):=by
  refine VA.grow (w:=(w.alloc (.cells #[.int .i64 a,.int .i64 b,.int .i64 c,.string ⟨#[48]⟩,.string ⟨#[]⟩] 35)).alloc (.cells #[.int .i64 0,.int .i64 0,.int .i64 0,.string ⟨#[]⟩,.string ⟨#[]⟩] 35)) ?_ hg
  unfold VA
  rw [<-hA,Lib.alloc_old _ _ _ (by simp)]
  exact heap_alloc_new w _
 have HR:Hid (VA (A+1) 0 0 0 ⟨#[]⟩ ⟨#[]⟩ w1):=by
  refine VA.grow (w:=(w.alloc (.cells #[.int .i64 a,.int .i64 b,.int .i64 c,.string ⟨#[48]⟩,.string ⟨#[]⟩] 35)).alloc (.cells #[.int .i64 0,.int .i64 0,.int .i64 0,.string ⟨#[]⟩,.string ⟨#[]⟩] 35)) ?_ hg
  have:=heap_alloc_new (w.alloc (.cells #[.int .i64 a,.int .i64 b,.int .i64 c,.string ⟨#[48]⟩,.string ⟨#[]⟩] 35)) (.cells #[.int .i64 0,.int .i64 0,.int .i64 0,.string ⟨#[]⟩,.string ⟨#[]⟩] 35)
  unfold VA
  rw [<-hA]
  simpa using this
 have HG:Hid (w.grownBy w1 none):=gb_trans (gb_alloc (gb_alloc (gb_refl w none) _) _) hg
 have HA:Hid (w.heap.size<=A):=by show _<=_;omega
 try rw [hA]
 clear hA hg
 go_wp2
 go_loopw [9] (fun vi wr=>((vi=.int .i64 0/\VA A a b c ⟨#[48]⟩ ⟨#[]⟩ wr)\/(vi=.int .i64 1/\VA A a b c ⟨#[48]⟩ ⟨#[]⟩ wr)\/(vi=.int .i64 2/\VA A a b c ⟨#[48]⟩ ⟨#[]⟩ wr)\/(vi=.int .i64 3/\VA A a b (c+1) ⟨#[48]⟩ ⟨#[]⟩ wr))/\VA (A+1) 0 0 0 ⟨#[]⟩ ⟨#[]⟩ wr/\w.grownBy wr none) (fun vi _=>3 - (intOf vi).toNat)
 case atStart=>exact ⟨Or.inl ⟨rfl,HV.out⟩,HR.out,HG.out⟩
 case round =>
  obtain ⟨hs,hr,hg⟩:=hrel
  clear HV HR HG
  have HR:Hid (VA (A+1) 0 0 0 ⟨#[]⟩ ⟨#[]⟩ wr):=hr
  have HG:Hid (w.grownBy wr none):=hg
  clear hr hg
  rcases hs with ⟨rfl,hv⟩ | ⟨rfl,hv⟩ | ⟨rfl,hv⟩ | ⟨rfl,hv⟩
  ·have HV:Hid (VA A a b c ⟨#[48]⟩ ⟨#[]⟩ wr):=hv
   have ix:=jp0 A wr
   have cc:=HV.out.c0
   have ff:=HV.out.f 0
   clear hv
   go_wp2
   go_roundw
   case rel=>exact ⟨Or.inr (Or.inl ⟨rfl,HV.out⟩),HR.out,HG.out⟩
   case measure=>simp [intOf]
  ·have HV:Hid (VA A a b c ⟨#[48]⟩ ⟨#[]⟩ wr):=hv
   have ix:=jp1 A wr
   have cc:=HV.out.c1
   have ff:=HV.out.f 1
   clear hv
   go_wp2
   go_roundw
   case rel=>exact ⟨Or.inr (Or.inr (Or.inl ⟨rfl,HV.out⟩)),HR.out,HG.out⟩
   case measure=>simp [intOf]
  ·have HV:Hid (VA A a b c ⟨#[48]⟩ ⟨#[]⟩ wr):=hv
   have ix:=jp2 A wr
   have cc:=HV.out.c2
   have ff:=HV.out.f 2
   clear hv
   go_wp2
   exact ⟨⟨Or.inr (Or.inr (Or.inr (⟨rfl,HV.out.set2 _⟩))),HR.out.other (by omega) _ _,gb_own0 HG.out (gb_set (gb_refl wr (some A)) _ _) HA.out⟩,by simp [intOf]⟩
  ·have HV:Hid (VA A a b (c+1) ⟨#[48]⟩ ⟨#[]⟩ wr):=hv
   have e0:=HV.out.c0
   have e1:=HV.out.c1
   have e2:=HV.out.c2
   have e3:=HV.out.c3
   have e4:=HV.out.c4
   have r0:=HR.out.c0
   have r1:=HR.out.c1
   have r2:=HR.out.c2
   have r3:=HR.out.c3
   have r4:=HR.out.c4
   have ff:=HR.out.f
   clear hv
   go_wp2
   have hr:=HR.out
   unfold VA at hr
   refine bodyPost_ret (results_cell_row rfl _ _ (A+1) 35 #[.int .i64 a,.int .i64 b,.int .i64 (c+1),.string ⟨#[48]⟩,.string ⟨#[]⟩] (0,0) _ rfl ?_ Tryz.underlying35 rfl (by kernel_rfl)) rfl ⟨rfl,gb_own0 HG.out (gb_set (gb_set (gb_set (gb_set (gb_set (gb_refl wr (some (A+1))) _ _) _ _) _ _) _ _) _ _) (by have:=HA.out;omega)⟩
   simp [World.setCell,Array.getElem?_modify,hr]
end Go.Proofs.YtonfldbigenfhaaGreatDoor
