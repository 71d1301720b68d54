import Derived.Test.YtonfldbigenfhaaGreatDoorM16
namespace Go.Proofs.YtonfldbigenfhaaGreatDoor
open Go.RowKit
set_option linter.unusedVariables false
def PB (A:Nat) (a b c:Int) (P:ByteArray) (n:Int) (w:World):Prop:=w.heap[A]?=some (.cells #[.int .i64 a,.int .i64 b,.int .i64 c,.string P,.string ⟨#[]⟩,.int .i64 n] 145 (0,0))
theorem PB.cells {A:Nat} {a b c:Int} {P:ByteArray} {n:Int} {w:World} (h:PB A a b c P n w):w.cell? ⟨A,0,none⟩=some (.int .i64 a)/\w.cell? ⟨A,1,none⟩=some (.int .i64 b)/\w.cell? ⟨A,2,none⟩=some (.int .i64 c)/\w.cell? ⟨A,3,none⟩=some (.string P)/\w.cell? ⟨A,4,none⟩=some (.string ⟨#[]⟩)/\w.cell? ⟨A,5,none⟩=some (.int .i64 n) :=
 ⟨by rw [Lib.cell_of_heap h];rfl,by rw [Lib.cell_of_heap h];rfl,by rw [Lib.cell_of_heap h];rfl,by rw [Lib.cell_of_heap h];rfl,by rw [Lib.cell_of_heap h];rfl,by rw [Lib.cell_of_heap h];rfl⟩
theorem PB.grow {A:Nat} {a b c:Int} {P:ByteArray} {n:Int} {w w':World} (h:PB A a b c P n w) (hg:w.grownBy w' none):PB A a b c P n w':=by
 unfold PB at h ⊢
 rw [hg.block A ((Array.getElem?_eq_some_iff.1 h).1) (by simp)];exact h
def SZ (B:Nat) (w:World):Prop:=w.heap[B]?=some (.cells #[.int .i64 0,.int .i64 0,.int .i64 0,.string ⟨#[]⟩,.string ⟨#[]⟩,.int .i64 0,.int .i64 0,.int .i64 0,.string ⟨#[]⟩,.string ⟨#[]⟩,.bool false] 37 (0,0))
theorem SZ.cells {B:Nat} {w:World} (h:SZ B w):w.cell? ⟨B,0,none⟩=some (.int .i64 0)/\w.cell? ⟨B,1,none⟩=some (.int .i64 0)/\w.cell? ⟨B,2,none⟩=some (.int .i64 0)/\w.cell? ⟨B,3,none⟩=some (.string ⟨#[]⟩)/\w.cell? ⟨B,4,none⟩=some (.string ⟨#[]⟩)/\w.cell? ⟨B,5,none⟩=some (.int .i64 0)/\w.cell? ⟨B,6,none⟩=some (.int .i64 0)/\w.cell? ⟨B,7,none⟩=some (.int .i64 0)/\w.cell? ⟨B,8,none⟩=some (.string ⟨#[]⟩)/\w.cell? ⟨B,9,none⟩=some (.string ⟨#[]⟩)/\w.cell? ⟨B,10,none⟩=some (.bool false) :=
 ⟨by rw [Lib.cell_of_heap h];rfl,by rw [Lib.cell_of_heap h];rfl,by rw [Lib.cell_of_heap h];rfl,by rw [Lib.cell_of_heap h];rfl,by rw [Lib.cell_of_heap h];rfl,by rw [Lib.cell_of_heap h];rfl,by rw [Lib.cell_of_heap h];rfl,by rw [Lib.cell_of_heap h];rfl,by rw [Lib.cell_of_heap h];rfl,by rw [Lib.cell_of_heap h];rfl,by rw [Lib.cell_of_heap h];rfl⟩
theorem SZ.f {B:Nat} {w:World} (h:SZ B w) (o:Nat):w.frozen? ⟨B,o,none⟩=false:=Lib.frozen_of_heap h o
theorem SZ.grow {B:Nat} {w w':World} (h:SZ B w) (hg:w.grownBy w' none):SZ B w':=by
 unfold SZ at h ⊢
 rw [hg.block B ((Array.getElem?_eq_some_iff.1 h).1) (by simp)];exact h
theorem gb_setC {w x:World} {B:Nat} (h:w.grownBy x none) (hB:w.heap.size<=B) {o:Nat} {v:Value}:w.grownBy (x.setCell ⟨B,o,none⟩ v) none:=by
 refine ⟨h.os,h.tape,h.output,by simpa [World.setCell] using h.size,fun k hk hn=>?_⟩
 rw [<-h.block k hk hn]
 exact heap_setCell_other x _ k v (by simp;omega)
theorem cell_drew (w:World) (p:Addr):w.drew.cell? p=w.cell? p:=rfl
theorem cell_far {A B:Nat} (h:A ≠ B) (w:World) (o:Nat) (x:Value) (k:Nat):(w.setCell ⟨B,o,none⟩ x).cell? ⟨A,k,none⟩=w.cell? ⟨A,k,none⟩:=by
 unfold World.cell?
 rw [heap_setCell_other w _ A x (by simpa using h)]
theorem keep5p {p0 p1 p2 p3 p4:Addr} {c0 c1 c2 c3 c4:Value} {w w':World} (hg:w.grownBy w' none) (h:w.cell? p0=some c0/\w.cell? p1=some c1/\w.cell? p2=some c2/\w.cell? p3=some c3/\w.cell? p4=some c4):w'.cell? p0=some c0/\w'.cell? p1=some c1/\w'.cell? p2=some c2/\w'.cell? p3=some c3/\w'.cell? p4=some c4:=by
 obtain ⟨h0,h1,h2,h3,h4⟩:=h
 exact ⟨hg.cell h0 (by simp),hg.cell h1 (by simp),hg.cell h2 (by simp),hg.cell h3 (by simp),hg.cell h4 (by simp)⟩
set_option maxRecDepth 100000 in
set_option maxHeartbeats 400000 in
theorem leading0_any (a b c:Int) (n:Int) (P:ByteArray) (w:World) (q:¬ a=0) :
  Calls Tryz.prog 130 #[.agg #[.int .i64 a,.int .i64 b,.int .i64 c,.string P,.string ⟨#[]⟩,.int .i64 n]] w fun e w'=>e=.returned (.int .i64 1)/\w.grownBy w' none:=by
 go_enter Tryz.func130,Tryz.ntmps130
 go_wp2_with (first | (go_at_call 132;refine (numbersOf_any _ _ (by simp)).mono ?_))
 rintro e w1 ⟨rfl,hg⟩
 obtain ⟨A,hA⟩:∃A,w.heap.size=A:=⟨_,rfl⟩
 have HV:Hid (PB A a b c P n w1):=by
  refine PB.grow (w:=w.alloc (.cells #[.int .i64 a,.int .i64 b,.int .i64 c,.string P,.string ⟨#[]⟩,.int .i64 n] 145)) ?_ hg
  unfold PB
  rw [<-hA];exact heap_alloc_new w _
 have HG:Hid (w.grownBy w1 none):=gb_trans (gb_alloc (gb_refl w none) _) hg
 try rw [hA]
 clear hA hg
 go_wp2
 go_loopw [7] (fun vi wr=>(vi=.int .i64 0)/\PB A a b c P n wr/\w.grownBy wr none) (fun vi _=>3 - (intOf vi).toNat)
 case atStart=>exact ⟨rfl,HV.out,HG.out⟩
 case round =>
  obtain ⟨hs,hv,hg⟩:=hrel
  clear HV HG
  have HV:Hid (PB A a b c P n wr):=hv
  have HG:Hid (w.grownBy wr none):=hg
  clear hv hg
  obtain ⟨e0,e1,e2,e3,e4,e5⟩:=HV.out.cells
  rcases hs with rfl
  ·have ix:=jp0 A wr
   go_wp2
   go_ret
   exact ⟨rfl,HG.out⟩
set_option maxRecDepth 100000 in
set_option maxHeartbeats 400000 in
theorem leading1_any (b c:Int) (n:Int) (P:ByteArray) (w:World) (q:¬ b=0) :
  Calls Tryz.prog 130 #[.agg #[.int .i64 0,.int .i64 b,.int .i64 c,.string P,.string ⟨#[]⟩,.int .i64 n]] w fun e w'=>e=.returned (.int .i64 2)/\w.grownBy w' none:=by
 go_enter Tryz.func130,Tryz.ntmps130
 go_wp2_with (first | (go_at_call 132;refine (numbersOf_any _ _ (by simp)).mono ?_))
 rintro e w1 ⟨rfl,hg⟩
 obtain ⟨A,hA⟩:∃A,w.heap.size=A:=⟨_,rfl⟩
 have HV:Hid (PB A 0 b c P n w1):=by
  refine PB.grow (w:=w.alloc (.cells #[.int .i64 0,.int .i64 b,.int .i64 c,.string P,.string ⟨#[]⟩,.int .i64 n] 145)) ?_ hg
  unfold PB
  rw [<-hA];exact heap_alloc_new w _
 have HG:Hid (w.grownBy w1 none):=gb_trans (gb_alloc (gb_refl w none) _) hg
 try rw [hA]
 clear hA hg
 go_wp2
 go_loopw [7] (fun vi wr=>(vi=.int .i64 0\/vi=.int .i64 1)/\PB A 0 b c P n wr/\w.grownBy wr none) (fun vi _=>3 - (intOf vi).toNat)
 case atStart=>exact ⟨Or.inl rfl,HV.out,HG.out⟩
 case round =>
  obtain ⟨hs,hv,hg⟩:=hrel
  clear HV HG
  have HV:Hid (PB A 0 b c P n wr):=hv
  have HG:Hid (w.grownBy wr none):=hg
  clear hv hg
  obtain ⟨e0,e1,e2,e3,e4,e5⟩:=HV.out.cells
  rcases hs with rfl | rfl
  ·have ix:=jp0 A wr
   go_wp2
   go_roundw
   case rel=>exact ⟨Or.inr (rfl),HV.out,HG.out⟩
   case measure=>simp [intOf]
  ·have ix:=jp1 A wr
   go_wp2
   go_ret
   exact ⟨rfl,HG.out⟩
set_option maxRecDepth 100000 in
set_option maxHeartbeats 400000 in
theorem leading2_any (c:Int) (n:Int) (P:ByteArray) (w:World) (q:¬ c=0) :
  Calls Tryz.prog 130 #[.agg #[.int .i64 0,.int .i64 0,.int .i64 c,.string P,.string ⟨#[]⟩,.int .i64 n]] w fun e w'=>e=.returned (.int .i64 3)/\w.grownBy w' none:=by
 go_enter Tryz.func130,Tryz.ntmps130
 go_wp2_with (first | (go_at_call 132;refine (numbersOf_any _ _ (by simp)).mono ?_))
 rintro e w1 ⟨rfl,hg⟩
 obtain ⟨A,hA⟩:∃A,w.heap.size=A:=⟨_,rfl⟩
 have HV:Hid (PB A 0 0 c P n w1):=by
  refine PB.grow (w:=w.alloc (.cells #[.int .i64 0,.int .i64 0,.int .i64 c,.string P,.string ⟨#[]⟩,.int .i64 n] 145)) ?_ hg
  unfold PB
  rw [<-hA];exact heap_alloc_new w _
 have HG:Hid (w.grownBy w1 none):=gb_trans (gb_alloc (gb_refl w none) _) hg
 try rw [hA]
 clear hA hg
 go_wp2
 go_loopw [7] (fun vi wr=>(vi=.int .i64 0\/vi=.int .i64 1\/vi=.int .i64 2)/\PB A 0 0 c P n wr/\w.grownBy wr none) (fun vi _=>3 - (intOf vi).toNat)
 case atStart=>exact ⟨Or.inl rfl,HV.out,HG.out⟩
 case round =>
  obtain ⟨hs,hv,hg⟩:=hrel
  clear HV HG
  have HV:Hid (PB A 0 0 c P n wr):=hv
  have HG:Hid (w.grownBy wr none):=hg
  clear hv hg
  obtain ⟨e0,e1,e2,e3,e4,e5⟩:=HV.out.cells
  rcases hs with rfl | rfl | rfl
  ·have ix:=jp0 A wr
   go_wp2
   go_roundw
   case rel=>exact ⟨Or.inr (Or.inl rfl),HV.out,HG.out⟩
   case measure=>simp [intOf]
  ·have ix:=jp1 A wr
   go_wp2
   go_roundw
   case rel=>exact ⟨Or.inr (Or.inr (rfl)),HV.out,HG.out⟩
   case measure=>simp [intOf]
  ·have ix:=jp2 A wr
   go_wp2
   go_ret
   exact ⟨rfl,HG.out⟩
set_option maxRecDepth 100000 in
set_option maxHeartbeats 400000 in
theorem leading3_any (n:Int) (P:ByteArray) (w:World) :
  Calls Tryz.prog 130 #[.agg #[.int .i64 0,.int .i64 0,.int .i64 0,.string P,.string ⟨#[]⟩,.int .i64 n]] w fun e w'=>e=.returned (.int .i64 n)/\w.grownBy w' none:=by
 go_enter Tryz.func130,Tryz.ntmps130
 go_wp2_with (first | (go_at_call 132;refine (numbersOf_any _ _ (by simp)).mono ?_))
 rintro e w1 ⟨rfl,hg⟩
 obtain ⟨A,hA⟩:∃A,w.heap.size=A:=⟨_,rfl⟩
 have HV:Hid (PB A 0 0 0 P n w1):=by
  refine PB.grow (w:=w.alloc (.cells #[.int .i64 0,.int .i64 0,.int .i64 0,.string P,.string ⟨#[]⟩,.int .i64 n] 145)) ?_ hg
  unfold PB
  rw [<-hA];exact heap_alloc_new w _
 have HG:Hid (w.grownBy w1 none):=gb_trans (gb_alloc (gb_refl w none) _) hg
 try rw [hA]
 clear hA hg
 go_wp2
 go_loopw [7] (fun vi wr=>(vi=.int .i64 0\/vi=.int .i64 1\/vi=.int .i64 2\/vi=.int .i64 3)/\PB A 0 0 0 P n wr/\w.grownBy wr none) (fun vi _=>3 - (intOf vi).toNat)
 case atStart=>exact ⟨Or.inl rfl,HV.out,HG.out⟩
 case round =>
  obtain ⟨hs,hv,hg⟩:=hrel
  clear HV HG
  have HV:Hid (PB A 0 0 0 P n wr):=hv
  have HG:Hid (w.grownBy wr none):=hg
  clear hv hg
  obtain ⟨e0,e1,e2,e3,e4,e5⟩:=HV.out.cells
  rcases hs with rfl | rfl | rfl | rfl
  ·have ix:=jp0 A wr
   go_wp2
   go_roundw
   case rel=>exact ⟨Or.inr (Or.inl rfl),HV.out,HG.out⟩
   case measure=>simp [intOf]
  ·have ix:=jp1 A wr
   go_wp2
   go_roundw
   case rel=>exact ⟨Or.inr (Or.inr (Or.inl rfl)),HV.out,HG.out⟩
   case measure=>simp [intOf]
  ·have ix:=jp2 A wr
   go_wp2
   go_roundw
   case rel=>exact ⟨Or.inr (Or.inr (Or.inr (rfl))),HV.out,HG.out⟩
   case measure=>simp [intOf]
  ·go_wp2
   go_ret
   exact ⟨rfl,HG.out⟩
set_option maxRecDepth 100000 in
set_option maxHeartbeats 400000 in
theorem alike0_any (a b c n:Int) (P:ByteArray) (w:World) (ha:0<=a/\a<=999999999) (hb:0<=b/\b<=999999999) (hc:0<=c/\c<=999999999) :
  Calls Tryz.prog 129 #[.agg #[.int .i64 a,.int .i64 b,.int .i64 c,.string P,.string ⟨#[]⟩,.int .i64 n],.int .i64 0] w fun e w'=>e=.returned (.agg #[.int .i64 a,.int .i64 b,.int .i64 c,.string P,.string ⟨#[]⟩,.int .i64 0,.int .i64 0,.int .i64 0,.string ⟨#[]⟩,.string ⟨#[]⟩,.bool true])/\w.grownBy w' none:=by
 clear ha hb hc
 go_enter Tryz.func129,Tryz.ntmps129
 go_wp2
 refine bodyPost_ret (results_cell_row rfl _ _ (w.heap.size+1) 37 #[.int .i64 a,.int .i64 b,.int .i64 c,.string P,.string ⟨#[]⟩,.int .i64 0,.int .i64 0,.int .i64 0,.string ⟨#[]⟩,.string ⟨#[]⟩,.bool true] (0,0) _ rfl ?_ Tryz.underlying37 rfl (by kernel_rfl)) rfl ⟨rfl,gb_alloc (gb_alloc (gb_refl w none) _) _⟩
 have:=heap_alloc_new (w.alloc (.cells #[.int .i64 a,.int .i64 b,.int .i64 c,.string P,.string ⟨#[]⟩,.int .i64 n] 145)) (.cells #[.int .i64 a,.int .i64 b,.int .i64 c,.string P,.string ⟨#[]⟩,.int .i64 0,.int .i64 0,.int .i64 0,.string ⟨#[]⟩,.string ⟨#[]⟩,.bool true] 37)
 rw [show (w.alloc (.cells #[.int .i64 a,.int .i64 b,.int .i64 c,.string P,.string ⟨#[]⟩,.int .i64 n] 145)).heap.size=w.heap.size+1 by simp] at this
 exact this
set_option maxRecDepth 100000 in
set_option maxHeartbeats 400000 in
theorem alike1_any (a b c n:Int) (P:ByteArray) (w:World) (ha:0<=a/\a<=999999999) (hb:0<=b/\b<=999999999) (hc:0<=c/\c<=999999999) :
  Calls Tryz.prog 129 #[.agg #[.int .i64 a,.int .i64 b,.int .i64 c,.string P,.string ⟨#[]⟩,.int .i64 n],.int .i64 1] w fun e w'=>e=.returned (.agg #[.int .i64 a,.int .i64 b,.int .i64 c,.string P,.string ⟨#[]⟩,.int .i64 (a+1),.int .i64 0,.int .i64 0,.string ⟨#[48]⟩,.string ⟨#[]⟩,.bool false])/\w.grownBy w' none:=by
 have CB:Hid (∀w,Calls Tryz.prog 159 #[.agg #[.int .i64 a,.int .i64 b,.int .i64 c,.string P,.string ⟨#[]⟩],.int .i64 1] w fun e w'=>e=.returned (.agg #[.int .i64 (a+1),.int .i64 0,.int .i64 0,.string ⟨#[48]⟩,.string ⟨#[]⟩])/\w.grownBy w' none):=fun w=>behind1_any a b c P w ha hb hc
 clear ha hb hc
 go_enter Tryz.func129,Tryz.ntmps129
 go_wp2_with (fail)
 obtain ⟨A,hA⟩:∃A,w.heap.size=A:=⟨_,rfl⟩
 obtain ⟨W,hW⟩:∃W,(w.alloc (.cells #[.int .i64 a,.int .i64 b,.int .i64 c,.string P,.string ⟨#[]⟩,.int .i64 n] 145)).alloc (.cells #[.int .i64 0,.int .i64 0,.int .i64 0,.string ⟨#[]⟩,.string ⟨#[]⟩,.int .i64 0,.int .i64 0,.int .i64 0,.string ⟨#[]⟩,.string ⟨#[]⟩,.bool false] 37)=W:=⟨_,rfl⟩
 have HV:Hid (PB A a b c P n W):=by
  show PB A a b c P n W
  unfold PB
  rw [<-hW,<-hA,Lib.alloc_old _ _ _ (by simp)];exact heap_alloc_new w _
 have HZ:Hid (SZ (A+1) W):=by
  show SZ (A+1) W
  unfold SZ
  have:=heap_alloc_new (w.alloc (.cells #[.int .i64 a,.int .i64 b,.int .i64 c,.string P,.string ⟨#[]⟩,.int .i64 n] 145)) (.cells #[.int .i64 0,.int .i64 0,.int .i64 0,.string ⟨#[]⟩,.string ⟨#[]⟩,.int .i64 0,.int .i64 0,.int .i64 0,.string ⟨#[]⟩,.string ⟨#[]⟩,.bool false] 37)
  rw [<-hW,<-hA]
  simpa using this
 have HG:Hid (w.grownBy W none):=by show w.grownBy W none;rw [<-hW];exact gb_alloc (gb_alloc (gb_refl w none) _) _
 have HB:Hid (w.heap.size<=A+1):=by show _<=_;omega
 try rw [hW]
 try rw [hA]
 clear hW hA
 obtain ⟨e0,e1,e2,e3,e4,e5⟩:=HV.out.cells
 go_region_held3 (fun w'=>w'.cell? ⟨A,0,none⟩=some (.int .i64 a)/\w'.cell? ⟨A,1,none⟩=some (.int .i64 b)/\w'.cell? ⟨A,2,none⟩=some (.int .i64 c)/\w'.cell? ⟨A,3,none⟩=some (.string P)/\w'.cell? ⟨A,4,none⟩=some (.string ⟨#[]⟩)) ((first | (simp only [cell_drew,cell_far (Nat.ne_of_lt (Nat.lt_succ_self A))];assumption) | (simp only [cell_drew];exact ⟨e0,e1,e2,e3,e4⟩) | exact keep5p (by assumption) (by assumption))) (first | (go_at_call 159;refine (CB.out _).mono ?_;rintro e w1 ⟨rfl,hg1⟩;have hz1:SZ (A+1) w1:=HZ.out.grow (gb_undrew hg1);obtain ⟨z0,z1,z2,z3,z4,z5,z6,z7,z8,z9,z10⟩:=hz1.cells;have zf:=hz1.f))
 have HZ1:Hid (SZ (A+1) w1):=hz1
 have HGW:Hid (w.grownBy w1 none):=gb_trans HG.out (gb_undrew hg1)
 clear z0 z1 z2 z3 z4 z5 z6 z7 z8 z9 z10 zf hz1 hg1 e0 e1 e2 e3 e4 e5
 go_wp2
 have hrw:=HZ1.out
 unfold SZ at hrw
 have hb:=HB.out
 refine bodyPost_ret (results_cell_row rfl _ _ (A+1) 37 #[.int .i64 a,.int .i64 b,.int .i64 c,.string P,.string ⟨#[]⟩,.int .i64 (a+1),.int .i64 0,.int .i64 0,.string ⟨#[48]⟩,.string ⟨#[]⟩,.bool false] (0,0) _ rfl ?_ Tryz.underlying37 rfl (by kernel_rfl)) rfl ⟨rfl,by repeat (first | refine gb_setC ?_ hb | exact HGW.out)⟩
 simp [World.setCell,Array.getElem?_modify,hrw]
set_option maxRecDepth 100000 in
set_option maxHeartbeats 400000 in
theorem alike2_any (a b c n:Int) (P:ByteArray) (w:World) (ha:0<=a/\a<=999999999) (hb:0<=b/\b<=999999999) (hc:0<=c/\c<=999999999) :
  Calls Tryz.prog 129 #[.agg #[.int .i64 a,.int .i64 b,.int .i64 c,.string P,.string ⟨#[]⟩,.int .i64 n],.int .i64 2] w fun e w'=>e=.returned (.agg #[.int .i64 a,.int .i64 b,.int .i64 c,.string P,.string ⟨#[]⟩,.int .i64 a,.int .i64 (b+1),.int .i64 0,.string ⟨#[48]⟩,.string ⟨#[]⟩,.bool false])/\w.grownBy w' none:=by
 have CB:Hid (∀w,Calls Tryz.prog 159 #[.agg #[.int .i64 a,.int .i64 b,.int .i64 c,.string P,.string ⟨#[]⟩],.int .i64 2] w fun e w'=>e=.returned (.agg #[.int .i64 a,.int .i64 (b+1),.int .i64 0,.string ⟨#[48]⟩,.string ⟨#[]⟩])/\w.grownBy w' none):=fun w=>behind2_any a b c P w ha hb hc
 clear ha hb hc
 go_enter Tryz.func129,Tryz.ntmps129
 go_wp2_with (fail)
 obtain ⟨A,hA⟩:∃A,w.heap.size=A:=⟨_,rfl⟩
 obtain ⟨W,hW⟩:∃W,(w.alloc (.cells #[.int .i64 a,.int .i64 b,.int .i64 c,.string P,.string ⟨#[]⟩,.int .i64 n] 145)).alloc (.cells #[.int .i64 0,.int .i64 0,.int .i64 0,.string ⟨#[]⟩,.string ⟨#[]⟩,.int .i64 0,.int .i64 0,.int .i64 0,.string ⟨#[]⟩,.string ⟨#[]⟩,.bool false] 37)=W:=⟨_,rfl⟩
 have HV:Hid (PB A a b c P n W):=by
  show PB A a b c P n W
  unfold PB
  rw [<-hW,<-hA,Lib.alloc_old _ _ _ (by simp)];exact heap_alloc_new w _
 have HZ:Hid (SZ (A+1) W):=by
  show SZ (A+1) W
  unfold SZ
  have:=heap_alloc_new (w.alloc (.cells #[.int .i64 a,.int .i64 b,.int .i64 c,.string P,.string ⟨#[]⟩,.int .i64 n] 145)) (.cells #[.int .i64 0,.int .i64 0,.int .i64 0,.string ⟨#[]⟩,.string ⟨#[]⟩,.int .i64 0,.int .i64 0,.int .i64 0,.string ⟨#[]⟩,.string ⟨#[]⟩,.bool false] 37)
  rw [<-hW,<-hA]
  simpa using this
 have HG:Hid (w.grownBy W none):=by show w.grownBy W none;rw [<-hW];exact gb_alloc (gb_alloc (gb_refl w none) _) _
 have HB:Hid (w.heap.size<=A+1):=by show _<=_;omega
 try rw [hW]
 try rw [hA]
 clear hW hA
 obtain ⟨e0,e1,e2,e3,e4,e5⟩:=HV.out.cells
 go_region_held3 (fun w'=>w'.cell? ⟨A,0,none⟩=some (.int .i64 a)/\w'.cell? ⟨A,1,none⟩=some (.int .i64 b)/\w'.cell? ⟨A,2,none⟩=some (.int .i64 c)/\w'.cell? ⟨A,3,none⟩=some (.string P)/\w'.cell? ⟨A,4,none⟩=some (.string ⟨#[]⟩)) ((first | (simp only [cell_drew,cell_far (Nat.ne_of_lt (Nat.lt_succ_self A))];assumption) | (simp only [cell_drew];exact ⟨e0,e1,e2,e3,e4⟩) | exact keep5p (by assumption) (by assumption))) (first | (go_at_call 159;refine (CB.out _).mono ?_;rintro e w1 ⟨rfl,hg1⟩;have hz1:SZ (A+1) w1:=HZ.out.grow (gb_undrew hg1);obtain ⟨z0,z1,z2,z3,z4,z5,z6,z7,z8,z9,z10⟩:=hz1.cells;have zf:=hz1.f))
 have HZ1:Hid (SZ (A+1) w1):=hz1
 have HGW:Hid (w.grownBy w1 none):=gb_trans HG.out (gb_undrew hg1)
 clear z0 z1 z2 z3 z4 z5 z6 z7 z8 z9 z10 zf hz1 hg1 e0 e1 e2 e3 e4 e5
 go_wp2
 have hrw:=HZ1.out
 unfold SZ at hrw
 have hb:=HB.out
 refine bodyPost_ret (results_cell_row rfl _ _ (A+1) 37 #[.int .i64 a,.int .i64 b,.int .i64 c,.string P,.string ⟨#[]⟩,.int .i64 a,.int .i64 (b+1),.int .i64 0,.string ⟨#[48]⟩,.string ⟨#[]⟩,.bool false] (0,0) _ rfl ?_ Tryz.underlying37 rfl (by kernel_rfl)) rfl ⟨rfl,by repeat (first | refine gb_setC ?_ hb | exact HGW.out)⟩
 simp [World.setCell,Array.getElem?_modify,hrw]
set_option maxRecDepth 100000 in
set_option maxHeartbeats 400000 in
theorem alike3_any (a b c n:Int) (P:ByteArray) (w:World) (ha:0<=a/\a<=999999999) (hb:0<=b/\b<=999999999) (hc:0<=c/\c<=999999999) :
  Calls Tryz.prog 129 #[.agg #[.int .i64 a,.int .i64 b,.int .i64 c,.string P,.string ⟨#[]⟩,.int .i64 n],.int .i64 3] w fun e w'=>e=.returned (.agg #[.int .i64 a,.int .i64 b,.int .i64 c,.string P,.string ⟨#[]⟩,.int .i64 a,.int .i64 b,.int .i64 (c+1),.string ⟨#[48]⟩,.string ⟨#[]⟩,.bool false])/\w.grownBy w' none:=by
 have CB:Hid (∀w,Calls Tryz.prog 159 #[.agg #[.int .i64 a,.int .i64 b,.int .i64 c,.string P,.string ⟨#[]⟩],.int .i64 3] w fun e w'=>e=.returned (.agg #[.int .i64 a,.int .i64 b,.int .i64 (c+1),.string ⟨#[48]⟩,.string ⟨#[]⟩])/\w.grownBy w' none):=fun w=>behind3_any a b c P w ha hb hc
 clear ha hb hc
 go_enter Tryz.func129,Tryz.ntmps129
 go_wp2_with (fail)
 obtain ⟨A,hA⟩:∃A,w.heap.size=A:=⟨_,rfl⟩
 obtain ⟨W,hW⟩:∃W,(w.alloc (.cells #[.int .i64 a,.int .i64 b,.int .i64 c,.string P,.string ⟨#[]⟩,.int .i64 n] 145)).alloc (.cells #[.int .i64 0,.int .i64 0,.int .i64 0,.string ⟨#[]⟩,.string ⟨#[]⟩,.int .i64 0,.int .i64 0,.int .i64 0,.string ⟨#[]⟩,.string ⟨#[]⟩,.bool false] 37)=W:=⟨_,rfl⟩
 have HV:Hid (PB A a b c P n W):=by
  show PB A a b c P n W
  unfold PB
  rw [<-hW,<-hA,Lib.alloc_old _ _ _ (by simp)];exact heap_alloc_new w _
 have HZ:Hid (SZ (A+1) W):=by
  show SZ (A+1) W
  unfold SZ
  have:=heap_alloc_new (w.alloc (.cells #[.int .i64 a,.int .i64 b,.int .i64 c,.string P,.string ⟨#[]⟩,.int .i64 n] 145)) (.cells #[.int .i64 0,.int .i64 0,.int .i64 0,.string ⟨#[]⟩,.string ⟨#[]⟩,.int .i64 0,.int .i64 0,.int .i64 0,.string ⟨#[]⟩,.string ⟨#[]⟩,.bool false] 37)
  rw [<-hW,<-hA]
  simpa using this
 have HG:Hid (w.grownBy W none):=by show w.grownBy W none;rw [<-hW];exact gb_alloc (gb_alloc (gb_refl w none) _) _
 have HB:Hid (w.heap.size<=A+1):=by show _<=_;omega
 try rw [hW]
 try rw [hA]
 clear hW hA
 obtain ⟨e0,e1,e2,e3,e4,e5⟩:=HV.out.cells
 go_region_held3 (fun w'=>w'.cell? ⟨A,0,none⟩=some (.int .i64 a)/\w'.cell? ⟨A,1,none⟩=some (.int .i64 b)/\w'.cell? ⟨A,2,none⟩=some (.int .i64 c)/\w'.cell? ⟨A,3,none⟩=some (.string P)/\w'.cell? ⟨A,4,none⟩=some (.string ⟨#[]⟩)) ((first | (simp only [cell_drew,cell_far (Nat.ne_of_lt (Nat.lt_succ_self A))];assumption) | (simp only [cell_drew];exact ⟨e0,e1,e2,e3,e4⟩) | exact keep5p (by assumption) (by assumption))) (first | (go_at_call 159;refine (CB.out _).mono ?_;rintro e w1 ⟨rfl,hg1⟩;have hz1:SZ (A+1) w1:=HZ.out.grow (gb_undrew hg1);obtain ⟨z0,z1,z2,z3,z4,z5,z6,z7,z8,z9,z10⟩:=hz1.cells;have zf:=hz1.f))
 have HZ1:Hid (SZ (A+1) w1):=hz1
 have HGW:Hid (w.grownBy w1 none):=gb_trans HG.out (gb_undrew hg1)
 clear z0 z1 z2 z3 z4 z5 z6 z7 z8 z9 z10 zf hz1 hg1 e0 e1 e2 e3 e4 e5
 go_wp2
 have hrw:=HZ1.out
 unfold SZ at hrw
 have hb:=HB.out
 refine bodyPost_ret (results_cell_row rfl _ _ (A+1) 37 #[.int .i64 a,.int .i64 b,.int .i64 c,.string P,.string ⟨#[]⟩,.int .i64 a,.int .i64 b,.int .i64 (c+1),.string ⟨#[48]⟩,.string ⟨#[]⟩,.bool false] (0,0) _ rfl ?_ Tryz.underlying37 rfl (by kernel_rfl)) rfl ⟨rfl,by repeat (first | refine gb_setC ?_ hb | exact HGW.out)⟩
 simp [World.setCell,Array.getElem?_modify,hrw]
end Go.Proofs.YtonfldbigenfhaaGreatDoor
