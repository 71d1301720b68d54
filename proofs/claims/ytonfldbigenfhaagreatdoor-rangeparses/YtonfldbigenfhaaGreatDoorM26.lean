import Derived.Test.YtonfldbigenfhaaGreatDoorM06
import Derived.Test.YtonfldbigenfhaaGreatDoorM14
import Derived.Test.YtonfldbigenfhaaGreatDoorM25
import Derived.Deep.RegionHeld3
namespace Go.Proofs.YtonfldbigenfhaaGreatDoor
open Go.RowKit
set_option linter.unusedVariables false
def PR (A:Nat) (n a b c:Int) (P Q:ByteArray) (w:World):Prop:=w.heap[A]?=some (.cells #[.int .i64 n,.int .i64 a,.int .i64 b,.int .i64 c,.string P,.string Q] 82 (0,0))
theorem PR.cells {A:Nat} {n a b c:Int} {P Q:ByteArray} {w:World} (h:PR A n a b c P Q w):w.cell? ⟨A,0,none⟩=some (.int .i64 n)/\w.cell? ⟨A,1,none⟩=some (.int .i64 a)/\w.cell? ⟨A,2,none⟩=some (.int .i64 b)/\w.cell? ⟨A,3,none⟩=some (.int .i64 c)/\w.cell? ⟨A,4,none⟩=some (.string P)/\w.cell? ⟨A,5,none⟩=some (.string Q) :=
 ⟨by rw [Lib.cell_of_heap h];rfl,by rw [Lib.cell_of_heap h];rfl,by rw [Lib.cell_of_heap h];rfl,by rw [Lib.cell_of_heap h];rfl,by rw [Lib.cell_of_heap h];rfl,by rw [Lib.cell_of_heap h];rfl⟩
theorem gb_set0 {w x:World} {B:Nat} (h:w.grownBy x none) (hB:w.heap.size<=B) {o:Nat} {v:Value}:w.grownBy (x.setCell ⟨B,o,none⟩ v) none:=by
 refine ⟨h.os,h.tape,h.output,by simpa [World.setCell] using h.size,fun k hk hn=>?_⟩
 rw [<-h.block k hk hn]
 exact heap_setCell_other x _ k v (by simp;omega)
theorem PR.grow {A:Nat} {n a b c:Int} {P Q:ByteArray} {w w':World} (h:PR A n a b c P Q w) (hg:w.grownBy w' none):PR A n a b c P Q w':=by
 unfold PR at h ⊢
 rw [hg.block A ((Array.getElem?_eq_some_iff.1 h).1) (by simp)];exact h
set_option maxRecDepth 100000 in
set_option maxHeartbeats 800000 in
theorem rnamed0_any (a b c v1 v2 v3:Int) (P Q v4 v5:ByteArray) (w:World) :
  Calls Tryz.prog 72 #[.agg #[.int .i64 0,.int .i64 a,.int .i64 b,.int .i64 c,.string P,.string Q],.agg #[.int .i64 v1,.int .i64 v2,.int .i64 v3,.string v4,.string v5]] w fun e w'=>e=.returned (.bool (namedB ⟨0,a,b,c,P.data.toList⟩ ⟨v1,v2,v3,v4.data.toList⟩))/\w.grownBy w' none:=by
 go_enter Tryz.func72,Tryz.ntmps72
 go_wp2
 all_goals go_ret
 all_goals (refine ⟨ret_bool ?_,gb_alloc (gb_alloc (gb_refl w none) _) _⟩;simp_all [namedB] <;> rfl)
set_option maxRecDepth 100000 in
set_option maxHeartbeats 800000 in
theorem rnamed1_any (a b c v1 v2 v3:Int) (P Q v4 v5:ByteArray) (w:World) :
  Calls Tryz.prog 72 #[.agg #[.int .i64 1,.int .i64 a,.int .i64 b,.int .i64 c,.string P,.string Q],.agg #[.int .i64 v1,.int .i64 v2,.int .i64 v3,.string v4,.string v5]] w fun e w'=>e=.returned (.bool (namedB ⟨1,a,b,c,P.data.toList⟩ ⟨v1,v2,v3,v4.data.toList⟩))/\w.grownBy w' none:=by
 go_enter Tryz.func72,Tryz.ntmps72
 go_wp2
 all_goals go_ret
 all_goals (refine ⟨ret_bool ?_,gb_alloc (gb_alloc (gb_refl w none) _) _⟩;simp_all [namedB] <;> rfl)
set_option maxRecDepth 100000 in
set_option maxHeartbeats 800000 in
theorem rnamed2_any (a b c v1 v2 v3:Int) (P Q v4 v5:ByteArray) (w:World) :
  Calls Tryz.prog 72 #[.agg #[.int .i64 2,.int .i64 a,.int .i64 b,.int .i64 c,.string P,.string Q],.agg #[.int .i64 v1,.int .i64 v2,.int .i64 v3,.string v4,.string v5]] w fun e w'=>e=.returned (.bool (namedB ⟨2,a,b,c,P.data.toList⟩ ⟨v1,v2,v3,v4.data.toList⟩))/\w.grownBy w' none:=by
 go_enter Tryz.func72,Tryz.ntmps72
 go_wp2
 all_goals go_ret
 all_goals (refine ⟨ret_bool ?_,gb_alloc (gb_alloc (gb_refl w none) _) _⟩;simp_all [namedB] <;> rfl)
set_option maxRecDepth 100000 in
set_option maxHeartbeats 800000 in
theorem rnamed3_any (a b c v1 v2 v3:Int) (P Q v4 v5:ByteArray) (w:World) (hp:P.size<=1048576) (hv:v4.size<=1048576) :
  Calls Tryz.prog 72 #[.agg #[.int .i64 3,.int .i64 a,.int .i64 b,.int .i64 c,.string P,.string Q],.agg #[.int .i64 v1,.int .i64 v2,.int .i64 v3,.string v4,.string v5]] w fun e w'=>e=.returned (.bool (namedB ⟨3,a,b,c,P.data.toList⟩ ⟨v1,v2,v3,v4.data.toList⟩))/\w.grownBy w' none:=by
 obtain ⟨x,hx⟩:∃x,verC ⟨a,b,c,P.data.toList⟩ ⟨v1,v2,v3,v4.data.toList⟩=x:=⟨_,rfl⟩
 have HR:Hid (namedB ⟨3,a,b,c,P.data.toList⟩ ⟨v1,v2,v3,v4.data.toList⟩=decide (x=0)):=by show _=_;rw [<-hx];rfl
 have CC:Hid (∀w,Calls Tryz.prog 64 #[.agg #[.int .i64 a,.int .i64 b,.int .i64 c,.string P,.string Q],.agg #[.int .i64 v1,.int .i64 v2,.int .i64 v3,.string v4,.string v5]] w fun e w'=>e=.returned (.int .i64 x)/\w.grownBy w' none):=fun w=>by
  rw [<-hx]
  refine (rcompare_any a b c v1 v2 v3 P Q v4 v5 w hp hv).mono ?_
  rintro e w' ⟨rfl,h⟩
  exact ⟨rfl,below_gb' h⟩
 obtain ⟨R,hR⟩:∃R,namedB ⟨3,a,b,c,P.data.toList⟩ ⟨v1,v2,v3,v4.data.toList⟩=R:=⟨_,rfl⟩
 rw [hR] at HR ⊢
 clear hx hp hv hR
 go_enter Tryz.func72,Tryz.ntmps72
 go_wp2_with (first | (go_at_call 64;refine (CC.out _).mono ?_))
 rintro e w1 ⟨rfl,hg⟩
 have HG:Hid (w.grownBy w1 none):=gb_trans (gb_alloc (gb_alloc (gb_refl w none) _) _) hg
 clear hg
 go_wp2
 go_ret
 exact ⟨ret_bool (by rw [HR.out];rfl),HG.out⟩
set_option maxRecDepth 100000 in
set_option maxHeartbeats 800000 in
theorem rplace0_any (a b c v1 v2 v3:Int) (P Q v4 v5:ByteArray) (w:World) (hp:P.size<=1048576) (hv:v4.size<=1048576) :
  Calls Tryz.prog 71 #[.agg #[.int .i64 0,.int .i64 a,.int .i64 b,.int .i64 c,.string P,.string Q],.agg #[.int .i64 v1,.int .i64 v2,.int .i64 v3,.string v4,.string v5]] w fun e w'=>e=.returned (.int .i64 (placeB ⟨0,a,b,c,P.data.toList⟩ ⟨v1,v2,v3,v4.data.toList⟩))/\w.grownBy w' none:=by
 obtain ⟨N,hN⟩:∃N,namedB ⟨0,a,b,c,P.data.toList⟩ ⟨v1,v2,v3,v4.data.toList⟩=N:=⟨_,rfl⟩
 obtain ⟨x,hx⟩:∃x,verC ⟨v1,v2,v3,v4.data.toList⟩ (paV ⟨0,a,b,c,P.data.toList⟩)=x:=⟨_,rfl⟩
 have HR:Hid (placeB ⟨0,a,b,c,P.data.toList⟩ ⟨v1,v2,v3,v4.data.toList⟩=if (N || decide (0=0))=true then 0 else x):=by show _=_;unfold placeB;rw [hN,hx]
 have CN:Hid (∀w,Calls Tryz.prog 72 #[.agg #[.int .i64 0,.int .i64 a,.int .i64 b,.int .i64 c,.string P,.string Q],.agg #[.int .i64 v1,.int .i64 v2,.int .i64 v3,.string v4,.string v5]] w fun e w'=>e=.returned (.bool N)/\w.grownBy w' none):=fun w=>by rw [<-hN];exact rnamed0_any a b c v1 v2 v3 P Q v4 v5 w
 have CC:Hid (∀w,Calls Tryz.prog 64 #[.agg #[.int .i64 v1,.int .i64 v2,.int .i64 v3,.string v4,.string v5],.agg #[.int .i64 a,.int .i64 b,.int .i64 c,.string P,.string Q]] w fun e w'=>e=.returned (.int .i64 x)/\w.grownBy w' none):=fun w=>by
  rw [<-hx]
  refine (rcompare_any v1 v2 v3 a b c v4 v5 P Q w hv hp).mono ?_
  rintro e w' ⟨rfl,h⟩
  exact ⟨rfl,below_gb' h⟩
 obtain ⟨R,hR⟩:∃R,placeB ⟨0,a,b,c,P.data.toList⟩ ⟨v1,v2,v3,v4.data.toList⟩=R:=⟨_,rfl⟩
 rw [hR] at HR ⊢
 have HN0:Hid (N=true):=by show N=true;rw [<-hN];rfl
 clear hN hx hp hv hR
 cases N with
 | true =>
  go_enter Tryz.func71,Tryz.ntmps71
  go_wp2_with (first | (go_at_call 72;refine (CN.out _).mono ?_))
  rintro e w1 rfl hg
  obtain ⟨A,hA⟩:∃A,w.heap.size=A:=⟨_,rfl⟩
  have HP:Hid (PR A 0 a b c P Q w1):=by
   refine PR.grow (w:=(w.alloc (.cells #[.int .i64 0,.int .i64 a,.int .i64 b,.int .i64 c,.string P,.string Q] 82)).alloc (.cells #[.int .i64 v1,.int .i64 v2,.int .i64 v3,.string v4,.string v5] 39)) ?_ hg
   unfold PR
   rw [<-hA,Lib.alloc_old _ _ _ (by simp)];exact heap_alloc_new w _
  have HV:Hid (St (A+1) v1 v2 v3 v4 v5 w1):=by
   refine St.grow ?_ hg
   refine st_row (t:=39) ?_
   have:=heap_alloc_new (w.alloc (.cells #[.int .i64 0,.int .i64 a,.int .i64 b,.int .i64 c,.string P,.string Q] 82)) (.cells #[.int .i64 v1,.int .i64 v2,.int .i64 v3,.string v4,.string v5] 39)
   rw [<-hA]
   simpa using this
  have HG:Hid (w.grownBy w1 none):=gb_trans (gb_alloc (gb_alloc (gb_refl w none) _) _) hg
  try rw [hA]
  clear hA hg
  obtain ⟨e0,e1,e2,e3,e4,e5⟩:=HP.out.cells
  obtain ⟨s1,s2,s3,s4,s5⟩:=HV.out
  go_wp2
  go_ret
  exact ⟨ret_int (by rw [HR.out];rfl),HG.out⟩
 | false=>exact absurd HN0.out (by decide)
set_option maxRecDepth 100000 in
set_option maxHeartbeats 800000 in
theorem rplace1_any (a b c v1 v2 v3:Int) (P Q v4 v5:ByteArray) (w:World) (hp:P.size<=1048576) (hv:v4.size<=1048576) :
  Calls Tryz.prog 71 #[.agg #[.int .i64 1,.int .i64 a,.int .i64 b,.int .i64 c,.string P,.string Q],.agg #[.int .i64 v1,.int .i64 v2,.int .i64 v3,.string v4,.string v5]] w fun e w'=>e=.returned (.int .i64 (placeB ⟨1,a,b,c,P.data.toList⟩ ⟨v1,v2,v3,v4.data.toList⟩))/\w.grownBy w' none:=by
 obtain ⟨N,hN⟩:∃N,namedB ⟨1,a,b,c,P.data.toList⟩ ⟨v1,v2,v3,v4.data.toList⟩=N:=⟨_,rfl⟩
 obtain ⟨x,hx⟩:∃x,verC ⟨v1,v2,v3,v4.data.toList⟩ (paV ⟨1,a,b,c,P.data.toList⟩)=x:=⟨_,rfl⟩
 have HR:Hid (placeB ⟨1,a,b,c,P.data.toList⟩ ⟨v1,v2,v3,v4.data.toList⟩=if (N || decide (1=0))=true then 0 else x):=by show _=_;unfold placeB;rw [hN,hx]
 have CN:Hid (∀w,Calls Tryz.prog 72 #[.agg #[.int .i64 1,.int .i64 a,.int .i64 b,.int .i64 c,.string P,.string Q],.agg #[.int .i64 v1,.int .i64 v2,.int .i64 v3,.string v4,.string v5]] w fun e w'=>e=.returned (.bool N)/\w.grownBy w' none):=fun w=>by rw [<-hN];exact rnamed1_any a b c v1 v2 v3 P Q v4 v5 w
 have CC:Hid (∀w,Calls Tryz.prog 64 #[.agg #[.int .i64 v1,.int .i64 v2,.int .i64 v3,.string v4,.string v5],.agg #[.int .i64 a,.int .i64 b,.int .i64 c,.string P,.string Q]] w fun e w'=>e=.returned (.int .i64 x)/\w.grownBy w' none):=fun w=>by
  rw [<-hx]
  refine (rcompare_any v1 v2 v3 a b c v4 v5 P Q w hv hp).mono ?_
  rintro e w' ⟨rfl,h⟩
  exact ⟨rfl,below_gb' h⟩
 obtain ⟨R,hR⟩:∃R,placeB ⟨1,a,b,c,P.data.toList⟩ ⟨v1,v2,v3,v4.data.toList⟩=R:=⟨_,rfl⟩
 rw [hR] at HR ⊢
 clear hN hx hp hv hR
 cases N with
 | true =>
  go_enter Tryz.func71,Tryz.ntmps71
  go_wp2_with (first | (go_at_call 72;refine (CN.out _).mono ?_))
  rintro e w1 ⟨rfl,hg⟩
  obtain ⟨A,hA⟩:∃A,w.heap.size=A:=⟨_,rfl⟩
  have HP:Hid (PR A 1 a b c P Q w1):=by
   refine PR.grow (w:=(w.alloc (.cells #[.int .i64 1,.int .i64 a,.int .i64 b,.int .i64 c,.string P,.string Q] 82)).alloc (.cells #[.int .i64 v1,.int .i64 v2,.int .i64 v3,.string v4,.string v5] 39)) ?_ hg
   unfold PR
   rw [<-hA,Lib.alloc_old _ _ _ (by simp)];exact heap_alloc_new w _
  have HV:Hid (St (A+1) v1 v2 v3 v4 v5 w1):=by
   refine St.grow ?_ hg
   refine st_row (t:=39) ?_
   have:=heap_alloc_new (w.alloc (.cells #[.int .i64 1,.int .i64 a,.int .i64 b,.int .i64 c,.string P,.string Q] 82)) (.cells #[.int .i64 v1,.int .i64 v2,.int .i64 v3,.string v4,.string v5] 39)
   rw [<-hA]
   simpa using this
  have HG:Hid (w.grownBy w1 none):=gb_trans (gb_alloc (gb_alloc (gb_refl w none) _) _) hg
  try rw [hA]
  clear hA hg
  obtain ⟨e0,e1,e2,e3,e4,e5⟩:=HP.out.cells
  obtain ⟨s1,s2,s3,s4,s5⟩:=HV.out
  go_wp2
  go_ret
  exact ⟨ret_int (by rw [HR.out];rfl),HG.out⟩
 | false =>
  go_enter Tryz.func71,Tryz.ntmps71
  go_wp2_with (first | (go_at_call 72;refine (CN.out _).mono ?_))
  rintro e w1 ⟨rfl,hg⟩
  obtain ⟨A,hA⟩:∃A,w.heap.size=A:=⟨_,rfl⟩
  have HP:Hid (PR A 1 a b c P Q w1):=by
   refine PR.grow (w:=(w.alloc (.cells #[.int .i64 1,.int .i64 a,.int .i64 b,.int .i64 c,.string P,.string Q] 82)).alloc (.cells #[.int .i64 v1,.int .i64 v2,.int .i64 v3,.string v4,.string v5] 39)) ?_ hg
   unfold PR
   rw [<-hA,Lib.alloc_old _ _ _ (by simp)];exact heap_alloc_new w _
  have HV:Hid (St (A+1) v1 v2 v3 v4 v5 w1):=by
   refine St.grow ?_ hg
   refine st_row (t:=39) ?_
   have:=heap_alloc_new (w.alloc (.cells #[.int .i64 1,.int .i64 a,.int .i64 b,.int .i64 c,.string P,.string Q] 82)) (.cells #[.int .i64 v1,.int .i64 v2,.int .i64 v3,.string v4,.string v5] 39)
   rw [<-hA]
   simpa using this
  have HG:Hid (w.grownBy w1 none):=gb_trans (gb_alloc (gb_alloc (gb_refl w none) _) _) hg
  try rw [hA]
  clear hA hg
  obtain ⟨e0,e1,e2,e3,e4,e5⟩:=HP.out.cells
  obtain ⟨s1,s2,s3,s4,s5⟩:=HV.out
  go_wp2_with (first | (go_at_call 64;refine (CC.out _).mono ?_;rintro e w2 ⟨rfl,hg2⟩))
  go_ret
  exact ⟨ret_int (by rw [HR.out];rfl),gb_trans HG.out hg2⟩
set_option maxRecDepth 100000 in
set_option maxHeartbeats 800000 in
theorem rplace2_any (a b c v1 v2 v3:Int) (P Q v4 v5:ByteArray) (w:World) (hp:P.size<=1048576) (hv:v4.size<=1048576) :
  Calls Tryz.prog 71 #[.agg #[.int .i64 2,.int .i64 a,.int .i64 b,.int .i64 c,.string P,.string Q],.agg #[.int .i64 v1,.int .i64 v2,.int .i64 v3,.string v4,.string v5]] w fun e w'=>e=.returned (.int .i64 (placeB ⟨2,a,b,c,P.data.toList⟩ ⟨v1,v2,v3,v4.data.toList⟩))/\w.grownBy w' none:=by
 obtain ⟨N,hN⟩:∃N,namedB ⟨2,a,b,c,P.data.toList⟩ ⟨v1,v2,v3,v4.data.toList⟩=N:=⟨_,rfl⟩
 obtain ⟨x,hx⟩:∃x,verC ⟨v1,v2,v3,v4.data.toList⟩ (paV ⟨2,a,b,c,P.data.toList⟩)=x:=⟨_,rfl⟩
 have HR:Hid (placeB ⟨2,a,b,c,P.data.toList⟩ ⟨v1,v2,v3,v4.data.toList⟩=if (N || decide (2=0))=true then 0 else x):=by show _=_;unfold placeB;rw [hN,hx]
 have CN:Hid (∀w,Calls Tryz.prog 72 #[.agg #[.int .i64 2,.int .i64 a,.int .i64 b,.int .i64 c,.string P,.string Q],.agg #[.int .i64 v1,.int .i64 v2,.int .i64 v3,.string v4,.string v5]] w fun e w'=>e=.returned (.bool N)/\w.grownBy w' none):=fun w=>by rw [<-hN];exact rnamed2_any a b c v1 v2 v3 P Q v4 v5 w
 have CC:Hid (∀w,Calls Tryz.prog 64 #[.agg #[.int .i64 v1,.int .i64 v2,.int .i64 v3,.string v4,.string v5],.agg #[.int .i64 a,.int .i64 b,.int .i64 c,.string P,.string Q]] w fun e w'=>e=.returned (.int .i64 x)/\w.grownBy w' none):=fun w=>by
  rw [<-hx]
  refine (rcompare_any v1 v2 v3 a b c v4 v5 P Q w hv hp).mono ?_
  rintro e w' ⟨rfl,h⟩
  exact ⟨rfl,below_gb' h⟩
 obtain ⟨R,hR⟩:∃R,placeB ⟨2,a,b,c,P.data.toList⟩ ⟨v1,v2,v3,v4.data.toList⟩=R:=⟨_,rfl⟩
 rw [hR] at HR ⊢
 clear hN hx hp hv hR
 cases N with
 | true =>
  go_enter Tryz.func71,Tryz.ntmps71
  go_wp2_with (first | (go_at_call 72;refine (CN.out _).mono ?_))
  rintro e w1 ⟨rfl,hg⟩
  obtain ⟨A,hA⟩:∃A,w.heap.size=A:=⟨_,rfl⟩
  have HP:Hid (PR A 2 a b c P Q w1):=by
   refine PR.grow (w:=(w.alloc (.cells #[.int .i64 2,.int .i64 a,.int .i64 b,.int .i64 c,.string P,.string Q] 82)).alloc (.cells #[.int .i64 v1,.int .i64 v2,.int .i64 v3,.string v4,.string v5] 39)) ?_ hg
   unfold PR
   rw [<-hA,Lib.alloc_old _ _ _ (by simp)];exact heap_alloc_new w _
  have HV:Hid (St (A+1) v1 v2 v3 v4 v5 w1):=by
   refine St.grow ?_ hg
   refine st_row (t:=39) ?_
   have:=heap_alloc_new (w.alloc (.cells #[.int .i64 2,.int .i64 a,.int .i64 b,.int .i64 c,.string P,.string Q] 82)) (.cells #[.int .i64 v1,.int .i64 v2,.int .i64 v3,.string v4,.string v5] 39)
   rw [<-hA]
   simpa using this
  have HG:Hid (w.grownBy w1 none):=gb_trans (gb_alloc (gb_alloc (gb_refl w none) _) _) hg
  try rw [hA]
  clear hA hg
  obtain ⟨e0,e1,e2,e3,e4,e5⟩:=HP.out.cells
  obtain ⟨s1,s2,s3,s4,s5⟩:=HV.out
  go_wp2
  go_ret
  exact ⟨ret_int (by rw [HR.out];rfl),HG.out⟩
 | false =>
  go_enter Tryz.func71,Tryz.ntmps71
  go_wp2_with (first | (go_at_call 72;refine (CN.out _).mono ?_))
  rintro e w1 ⟨rfl,hg⟩
  obtain ⟨A,hA⟩:∃A,w.heap.size=A:=⟨_,rfl⟩
  have HP:Hid (PR A 2 a b c P Q w1):=by
   refine PR.grow (w:=(w.alloc (.cells #[.int .i64 2,.int .i64 a,.int .i64 b,.int .i64 c,.string P,.string Q] 82)).alloc (.cells #[.int .i64 v1,.int .i64 v2,.int .i64 v3,.string v4,.string v5] 39)) ?_ hg
   unfold PR
   rw [<-hA,Lib.alloc_old _ _ _ (by simp)];exact heap_alloc_new w _
  have HV:Hid (St (A+1) v1 v2 v3 v4 v5 w1):=by
   refine St.grow ?_ hg
   refine st_row (t:=39) ?_
   have:=heap_alloc_new (w.alloc (.cells #[.int .i64 2,.int .i64 a,.int .i64 b,.int .i64 c,.string P,.string Q] 82)) (.cells #[.int .i64 v1,.int .i64 v2,.int .i64 v3,.string v4,.string v5] 39)
   rw [<-hA]
   simpa using this
  have HG:Hid (w.grownBy w1 none):=gb_trans (gb_alloc (gb_alloc (gb_refl w none) _) _) hg
  try rw [hA]
  clear hA hg
  obtain ⟨e0,e1,e2,e3,e4,e5⟩:=HP.out.cells
  obtain ⟨s1,s2,s3,s4,s5⟩:=HV.out
  go_wp2_with (first | (go_at_call 64;refine (CC.out _).mono ?_;rintro e w2 ⟨rfl,hg2⟩))
  go_ret
  exact ⟨ret_int (by rw [HR.out];rfl),gb_trans HG.out hg2⟩
set_option maxRecDepth 100000 in
set_option maxHeartbeats 800000 in
theorem rplace3_any (a b c v1 v2 v3:Int) (P Q v4 v5:ByteArray) (w:World) (hp:P.size<=1048576) (hv:v4.size<=1048576) :
  Calls Tryz.prog 71 #[.agg #[.int .i64 3,.int .i64 a,.int .i64 b,.int .i64 c,.string P,.string Q],.agg #[.int .i64 v1,.int .i64 v2,.int .i64 v3,.string v4,.string v5]] w fun e w'=>e=.returned (.int .i64 (placeB ⟨3,a,b,c,P.data.toList⟩ ⟨v1,v2,v3,v4.data.toList⟩))/\w.grownBy w' none:=by
 obtain ⟨N,hN⟩:∃N,namedB ⟨3,a,b,c,P.data.toList⟩ ⟨v1,v2,v3,v4.data.toList⟩=N:=⟨_,rfl⟩
 obtain ⟨x,hx⟩:∃x,verC ⟨v1,v2,v3,v4.data.toList⟩ (paV ⟨3,a,b,c,P.data.toList⟩)=x:=⟨_,rfl⟩
 have HR:Hid (placeB ⟨3,a,b,c,P.data.toList⟩ ⟨v1,v2,v3,v4.data.toList⟩=if (N || decide (3=0))=true then 0 else x):=by show _=_;unfold placeB;rw [hN,hx]
 have CN:Hid (∀w,Calls Tryz.prog 72 #[.agg #[.int .i64 3,.int .i64 a,.int .i64 b,.int .i64 c,.string P,.string Q],.agg #[.int .i64 v1,.int .i64 v2,.int .i64 v3,.string v4,.string v5]] w fun e w'=>e=.returned (.bool N)/\w.grownBy w' none):=fun w=>by rw [<-hN];exact rnamed3_any a b c v1 v2 v3 P Q v4 v5 w hp hv
 have CC:Hid (∀w,Calls Tryz.prog 64 #[.agg #[.int .i64 v1,.int .i64 v2,.int .i64 v3,.string v4,.string v5],.agg #[.int .i64 a,.int .i64 b,.int .i64 c,.string P,.string Q]] w fun e w'=>e=.returned (.int .i64 x)/\w.grownBy w' none):=fun w=>by
  rw [<-hx]
  refine (rcompare_any v1 v2 v3 a b c v4 v5 P Q w hv hp).mono ?_
  rintro e w' ⟨rfl,h⟩
  exact ⟨rfl,below_gb' h⟩
 obtain ⟨R,hR⟩:∃R,placeB ⟨3,a,b,c,P.data.toList⟩ ⟨v1,v2,v3,v4.data.toList⟩=R:=⟨_,rfl⟩
 rw [hR] at HR ⊢
 clear hN hx hp hv hR
 cases N with
 | true =>
  go_enter Tryz.func71,Tryz.ntmps71
  go_wp2_with (first | (go_at_call 72;refine (CN.out _).mono ?_))
  rintro e w1 ⟨rfl,hg⟩
  obtain ⟨A,hA⟩:∃A,w.heap.size=A:=⟨_,rfl⟩
  have HP:Hid (PR A 3 a b c P Q w1):=by
   refine PR.grow (w:=(w.alloc (.cells #[.int .i64 3,.int .i64 a,.int .i64 b,.int .i64 c,.string P,.string Q] 82)).alloc (.cells #[.int .i64 v1,.int .i64 v2,.int .i64 v3,.string v4,.string v5] 39)) ?_ hg
   unfold PR
   rw [<-hA,Lib.alloc_old _ _ _ (by simp)];exact heap_alloc_new w _
  have HV:Hid (St (A+1) v1 v2 v3 v4 v5 w1):=by
   refine St.grow ?_ hg
   refine st_row (t:=39) ?_
   have:=heap_alloc_new (w.alloc (.cells #[.int .i64 3,.int .i64 a,.int .i64 b,.int .i64 c,.string P,.string Q] 82)) (.cells #[.int .i64 v1,.int .i64 v2,.int .i64 v3,.string v4,.string v5] 39)
   rw [<-hA]
   simpa using this
  have HG:Hid (w.grownBy w1 none):=gb_trans (gb_alloc (gb_alloc (gb_refl w none) _) _) hg
  try rw [hA]
  clear hA hg
  obtain ⟨e0,e1,e2,e3,e4,e5⟩:=HP.out.cells
  obtain ⟨s1,s2,s3,s4,s5⟩:=HV.out
  go_wp2
  go_ret
  exact ⟨ret_int (by rw [HR.out];rfl),HG.out⟩
 | false =>
  go_enter Tryz.func71,Tryz.ntmps71
  go_wp2_with (first | (go_at_call 72;refine (CN.out _).mono ?_))
  rintro e w1 ⟨rfl,hg⟩
  obtain ⟨A,hA⟩:∃A,w.heap.size=A:=⟨_,rfl⟩
  have HP:Hid (PR A 3 a b c P Q w1):=by
   refine PR.grow (w:=(w.alloc (.cells #[.int .i64 3,.int .i64 a,.int .i64 b,.int .i64 c,.string P,.string Q] 82)).alloc (.cells #[.int .i64 v1,.int .i64 v2,.int .i64 v3,.string v4,.string v5] 39)) ?_ hg
   unfold PR
   rw [<-hA,Lib.alloc_old _ _ _ (by simp)];exact heap_alloc_new w _
  have HV:Hid (St (A+1) v1 v2 v3 v4 v5 w1):=by
   refine St.grow ?_ hg
   refine st_row (t:=39) ?_
   have:=heap_alloc_new (w.alloc (.cells #[.int .i64 3,.int .i64 a,.int .i64 b,.int .i64 c,.string P,.string Q] 82)) (.cells #[.int .i64 v1,.int .i64 v2,.int .i64 v3,.string v4,.string v5] 39)
   rw [<-hA]
   simpa using this
  have HG:Hid (w.grownBy w1 none):=gb_trans (gb_alloc (gb_alloc (gb_refl w none) _) _) hg
  try rw [hA]
  clear hA hg
  obtain ⟨e0,e1,e2,e3,e4,e5⟩:=HP.out.cells
  obtain ⟨s1,s2,s3,s4,s5⟩:=HV.out
  go_wp2_with (first | (go_at_call 64;refine (CC.out _).mono ?_;rintro e w2 ⟨rfl,hg2⟩))
  go_ret
  exact ⟨ret_int (by rw [HR.out];rfl),gb_trans HG.out hg2⟩
set_option maxRecDepth 100000 in
set_option maxHeartbeats 1600000 in
theorem rleads0_any (a b c v1 v2 v3:Int) (P Q v4 v5:ByteArray) (w:World) :
  Calls Tryz.prog 73 #[.agg #[.int .i64 0,.int .i64 a,.int .i64 b,.int .i64 c,.string P,.string Q],.agg #[.int .i64 v1,.int .i64 v2,.int .i64 v3,.string v4,.string v5]] w fun e w'=>e=.returned (.bool (leadsB ⟨0,a,b,c,P.data.toList⟩ ⟨v1,v2,v3,v4.data.toList⟩))/\w.grownBy w' none:=by
 go_enter Tryz.func73,Tryz.ntmps73
 go_wp2
 all_goals go_ret
 all_goals (refine ⟨ret_bool ?_,gb_alloc (gb_alloc (gb_refl w none) _) _⟩;simp_all [leadsB] <;> first | omega | rfl | (rw [Bool.eq_iff_iff];simp;omega))
set_option maxRecDepth 100000 in
set_option maxHeartbeats 1600000 in
theorem rleads1_any (a b c v1 v2 v3:Int) (P Q v4 v5:ByteArray) (w:World) :
  Calls Tryz.prog 73 #[.agg #[.int .i64 1,.int .i64 a,.int .i64 b,.int .i64 c,.string P,.string Q],.agg #[.int .i64 v1,.int .i64 v2,.int .i64 v3,.string v4,.string v5]] w fun e w'=>e=.returned (.bool (leadsB ⟨1,a,b,c,P.data.toList⟩ ⟨v1,v2,v3,v4.data.toList⟩))/\w.grownBy w' none:=by
 go_enter Tryz.func73,Tryz.ntmps73
 go_wp2
 all_goals go_ret
 all_goals (refine ⟨ret_bool ?_,gb_alloc (gb_alloc (gb_refl w none) _) _⟩;simp_all [leadsB] <;> first | omega | rfl | (rw [Bool.eq_iff_iff];simp;omega))
set_option maxRecDepth 100000 in
set_option maxHeartbeats 1600000 in
theorem rleads2_any (a b c v1 v2 v3:Int) (P Q v4 v5:ByteArray) (w:World) :
  Calls Tryz.prog 73 #[.agg #[.int .i64 2,.int .i64 a,.int .i64 b,.int .i64 c,.string P,.string Q],.agg #[.int .i64 v1,.int .i64 v2,.int .i64 v3,.string v4,.string v5]] w fun e w'=>e=.returned (.bool (leadsB ⟨2,a,b,c,P.data.toList⟩ ⟨v1,v2,v3,v4.data.toList⟩))/\w.grownBy w' none:=by
 go_enter Tryz.func73,Tryz.ntmps73
 go_wp2
 all_goals go_ret
 all_goals (refine ⟨ret_bool ?_,gb_alloc (gb_alloc (gb_refl w none) _) _⟩;simp_all [leadsB] <;> first | omega | rfl | (rw [Bool.eq_iff_iff];simp;omega))
set_option maxRecDepth 100000 in
set_option maxHeartbeats 1600000 in
theorem rleads3_any (a b c v1 v2 v3:Int) (P Q v4 v5:ByteArray) (w:World) :
  Calls Tryz.prog 73 #[.agg #[.int .i64 3,.int .i64 a,.int .i64 b,.int .i64 c,.string P,.string Q],.agg #[.int .i64 v1,.int .i64 v2,.int .i64 v3,.string v4,.string v5]] w fun e w'=>e=.returned (.bool (leadsB ⟨3,a,b,c,P.data.toList⟩ ⟨v1,v2,v3,v4.data.toList⟩))/\w.grownBy w' none:=by
 go_enter Tryz.func73,Tryz.ntmps73
 go_wp2
 all_goals go_ret
 all_goals (refine ⟨ret_bool ?_,gb_alloc (gb_alloc (gb_refl w none) _) _⟩;simp_all [leadsB] <;> first | omega | rfl | (rw [Bool.eq_iff_iff];simp;omega))
set_option maxRecDepth 100000 in
set_option maxHeartbeats 800000 in
theorem rfirst0_any (a b c:Int) (P Q:ByteArray) (w:World) :
  Calls Tryz.prog 65 #[.agg #[.int .i64 0,.int .i64 a,.int .i64 b,.int .i64 c,.string P,.string Q]] w fun e w'=>e=.returned (.agg #[.int .i64 a,.int .i64 b,.int .i64 c,.string ⟨#[48]⟩,.string ⟨#[]⟩])/\w.grownBy w' none:=by
 have CP:Hid (∀w,Calls Tryz.prog 95 #[.agg #[.int .i64 a,.int .i64 b,.int .i64 c,.string P,.string Q]] w fun e w'=>e=.returned (.agg #[.int .i64 a,.int .i64 b,.int .i64 c,.string P,.string ⟨#[]⟩])/\w.grownBy w' none):=fun w=>plain_any a b c P Q w
 go_enter Tryz.func65,Tryz.ntmps65
 go_wp2_with (first | (go_at_call 95;refine (CP.out _).mono ?_))
 rintro e w1 ⟨rfl,hg⟩
 obtain ⟨A,hA⟩:∃A,w.heap.size=A:=⟨_,rfl⟩
 have HP:Hid (PR A 0 a b c P Q w1):=by
  refine PR.grow (w:=(w.alloc (.cells #[.int .i64 0,.int .i64 a,.int .i64 b,.int .i64 c,.string P,.string Q] 82)).alloc (.cells #[.int .i64 0,.int .i64 0,.int .i64 0,.string ⟨#[]⟩,.string ⟨#[]⟩] 39)) ?_ hg
  unfold PR
  rw [<-hA,Lib.alloc_old _ _ _ (by simp)];exact heap_alloc_new w _
 have HR:Hid (w1.heap[A+1]?=some (.cells #[.int .i64 0,.int .i64 0,.int .i64 0,.string ⟨#[]⟩,.string ⟨#[]⟩] 39 (0,0))):=by
  show _=_
  have:=heap_alloc_new (w.alloc (.cells #[.int .i64 0,.int .i64 a,.int .i64 b,.int .i64 c,.string P,.string Q] 82)) (.cells #[.int .i64 0,.int .i64 0,.int .i64 0,.string ⟨#[]⟩,.string ⟨#[]⟩] 39)
  rw [hg.block (A+1) (by simp;omega) (by simp),<-hA]
  simpa using this
 have HG:Hid (w.grownBy w1 none):=gb_trans (gb_alloc (gb_alloc (gb_refl w none) _) _) hg
 have HA1:Hid (w.heap.size<=A/\A+1 < w1.heap.size):=by
  refine ⟨by omega,?_⟩
  have:=(Array.getElem?_eq_some_iff.1 HR.out).1
  omega
 try rw [hA]
 clear hA hg
 obtain ⟨C,hC⟩:∃C,w1.heap.size=C:=⟨_,rfl⟩
 obtain ⟨W,hW⟩:∃W,w1.alloc (.cells #[.int .i64 a,.int .i64 b,.int .i64 c,.string P,.string ⟨#[]⟩] 39)=W:=⟨_,rfl⟩
 have hgW:w1.grownBy W none:=by rw [<-hW];exact gb_alloc (gb_refl w1 none) _
 have HPW:Hid (PR A 0 a b c P Q W):=HP.out.grow hgW
 have HRW:Hid (W.heap[A+1]?=some (.cells #[.int .i64 0,.int .i64 0,.int .i64 0,.string ⟨#[]⟩,.string ⟨#[]⟩] 39 (0,0))):=by show _=_;rw [hgW.block (A+1) HA1.out.2 (by simp)];exact HR.out
 have HCW:Hid (W.heap[C]?=some (.cells #[.int .i64 a,.int .i64 b,.int .i64 c,.string P,.string ⟨#[]⟩] 39 (0,0))):=by show _=_;rw [<-hW,<-hC];exact heap_alloc_new w1 _
 have HGW:Hid (w.grownBy W none):=gb_trans HG.out hgW
 have HCA:Hid (w.heap.size<=A/\A+1 < C):=by show _/\_;rw [<-hC];exact HA1.out
 clear hgW HP HR HG HA1
 obtain ⟨e0,e1,e2,e3,e4,e5⟩:=HPW.out.cells
 have r0:W.cell? ⟨A+1,0,none⟩=some (.int .i64 0):=by rw [Lib.cell_of_heap HRW.out];rfl
 have r1:W.cell? ⟨A+1,1,none⟩=some (.int .i64 0):=by rw [Lib.cell_of_heap HRW.out];rfl
 have r2:W.cell? ⟨A+1,2,none⟩=some (.int .i64 0):=by rw [Lib.cell_of_heap HRW.out];rfl
 have r3:W.cell? ⟨A+1,3,none⟩=some (.string ⟨#[]⟩):=by rw [Lib.cell_of_heap HRW.out];rfl
 have r4:W.cell? ⟨A+1,4,none⟩=some (.string ⟨#[]⟩):=by rw [Lib.cell_of_heap HRW.out];rfl
 have rf:∀o,W.frozen? ⟨A+1,o,none⟩=false:=fun o=>Lib.frozen_of_heap HRW.out o
 have c0:W.cell? ⟨C,0,none⟩=some (.int .i64 a):=by rw [Lib.cell_of_heap HCW.out];rfl
 have c1:W.cell? ⟨C,1,none⟩=some (.int .i64 b):=by rw [Lib.cell_of_heap HCW.out];rfl
 have c2:W.cell? ⟨C,2,none⟩=some (.int .i64 c):=by rw [Lib.cell_of_heap HCW.out];rfl
 have c3:W.cell? ⟨C,3,none⟩=some (.string P):=by rw [Lib.cell_of_heap HCW.out];rfl
 have c4:W.cell? ⟨C,4,none⟩=some (.string ⟨#[]⟩):=by rw [Lib.cell_of_heap HCW.out];rfl
 have cf:∀o,W.frozen? ⟨C,o,none⟩=false:=fun o=>Lib.frozen_of_heap HCW.out o
 have hcc:=HCA.out
 have n1:¬ (A+1=C):=by omega
 have n2:¬ (C=A+1):=by omega
 have n3:¬ (A=C):=by omega
 have n4:¬ (C=A):=by omega
 clear hcc
 go_wp2
 have hcc:=HCA.out
 have hrw:=HRW.out
 refine bodyPost_ret (results_cell_row rfl _ _ (A+1) 39 #[.int .i64 a,.int .i64 b,.int .i64 c,.string ⟨#[48]⟩,.string ⟨#[]⟩] (0,0) _ rfl ?_ Tryz.underlying39 rfl (by kernel_rfl)) rfl ⟨rfl,by repeat (first | refine gb_set0 ?_ (by omega) | exact HGW.out)⟩
 simp [World.setCell,Array.getElem?_modify,hrw,n2]
set_option maxRecDepth 100000 in
set_option maxHeartbeats 800000 in
theorem rfirst1_any (a b c:Int) (P Q:ByteArray) (w:World) :
  Calls Tryz.prog 65 #[.agg #[.int .i64 1,.int .i64 a,.int .i64 b,.int .i64 c,.string P,.string Q]] w fun e w'=>e=.returned (.agg #[.int .i64 a,.int .i64 b,.int .i64 c,.string ⟨#[48]⟩,.string ⟨#[]⟩])/\w.grownBy w' none:=by
 have CP:Hid (∀w,Calls Tryz.prog 95 #[.agg #[.int .i64 a,.int .i64 b,.int .i64 c,.string P,.string Q]] w fun e w'=>e=.returned (.agg #[.int .i64 a,.int .i64 b,.int .i64 c,.string P,.string ⟨#[]⟩])/\w.grownBy w' none):=fun w=>plain_any a b c P Q w
 go_enter Tryz.func65,Tryz.ntmps65
 go_wp2_with (first | (go_at_call 95;refine (CP.out _).mono ?_))
 rintro e w1 ⟨rfl,hg⟩
 obtain ⟨A,hA⟩:∃A,w.heap.size=A:=⟨_,rfl⟩
 have HP:Hid (PR A 1 a b c P Q w1):=by
  refine PR.grow (w:=(w.alloc (.cells #[.int .i64 1,.int .i64 a,.int .i64 b,.int .i64 c,.string P,.string Q] 82)).alloc (.cells #[.int .i64 0,.int .i64 0,.int .i64 0,.string ⟨#[]⟩,.string ⟨#[]⟩] 39)) ?_ hg
  unfold PR
  rw [<-hA,Lib.alloc_old _ _ _ (by simp)];exact heap_alloc_new w _
 have HR:Hid (w1.heap[A+1]?=some (.cells #[.int .i64 0,.int .i64 0,.int .i64 0,.string ⟨#[]⟩,.string ⟨#[]⟩] 39 (0,0))):=by
  show _=_
  have:=heap_alloc_new (w.alloc (.cells #[.int .i64 1,.int .i64 a,.int .i64 b,.int .i64 c,.string P,.string Q] 82)) (.cells #[.int .i64 0,.int .i64 0,.int .i64 0,.string ⟨#[]⟩,.string ⟨#[]⟩] 39)
  rw [hg.block (A+1) (by simp;omega) (by simp),<-hA]
  simpa using this
 have HG:Hid (w.grownBy w1 none):=gb_trans (gb_alloc (gb_alloc (gb_refl w none) _) _) hg
 have HA1:Hid (w.heap.size<=A/\A+1 < w1.heap.size):=by
  refine ⟨by omega,?_⟩
  have:=(Array.getElem?_eq_some_iff.1 HR.out).1
  omega
 try rw [hA]
 clear hA hg
 obtain ⟨C,hC⟩:∃C,w1.heap.size=C:=⟨_,rfl⟩
 obtain ⟨W,hW⟩:∃W,w1.alloc (.cells #[.int .i64 a,.int .i64 b,.int .i64 c,.string P,.string ⟨#[]⟩] 39)=W:=⟨_,rfl⟩
 have hgW:w1.grownBy W none:=by rw [<-hW];exact gb_alloc (gb_refl w1 none) _
 have HPW:Hid (PR A 1 a b c P Q W):=HP.out.grow hgW
 have HRW:Hid (W.heap[A+1]?=some (.cells #[.int .i64 0,.int .i64 0,.int .i64 0,.string ⟨#[]⟩,.string ⟨#[]⟩] 39 (0,0))):=by show _=_;rw [hgW.block (A+1) HA1.out.2 (by simp)];exact HR.out
 have HCW:Hid (W.heap[C]?=some (.cells #[.int .i64 a,.int .i64 b,.int .i64 c,.string P,.string ⟨#[]⟩] 39 (0,0))):=by show _=_;rw [<-hW,<-hC];exact heap_alloc_new w1 _
 have HGW:Hid (w.grownBy W none):=gb_trans HG.out hgW
 have HCA:Hid (w.heap.size<=A/\A+1 < C):=by show _/\_;rw [<-hC];exact HA1.out
 clear hgW HP HR HG HA1
 obtain ⟨e0,e1,e2,e3,e4,e5⟩:=HPW.out.cells
 have r0:W.cell? ⟨A+1,0,none⟩=some (.int .i64 0):=by rw [Lib.cell_of_heap HRW.out];rfl
 have r1:W.cell? ⟨A+1,1,none⟩=some (.int .i64 0):=by rw [Lib.cell_of_heap HRW.out];rfl
 have r2:W.cell? ⟨A+1,2,none⟩=some (.int .i64 0):=by rw [Lib.cell_of_heap HRW.out];rfl
 have r3:W.cell? ⟨A+1,3,none⟩=some (.string ⟨#[]⟩):=by rw [Lib.cell_of_heap HRW.out];rfl
 have r4:W.cell? ⟨A+1,4,none⟩=some (.string ⟨#[]⟩):=by rw [Lib.cell_of_heap HRW.out];rfl
 have rf:∀o,W.frozen? ⟨A+1,o,none⟩=false:=fun o=>Lib.frozen_of_heap HRW.out o
 have c0:W.cell? ⟨C,0,none⟩=some (.int .i64 a):=by rw [Lib.cell_of_heap HCW.out];rfl
 have c1:W.cell? ⟨C,1,none⟩=some (.int .i64 b):=by rw [Lib.cell_of_heap HCW.out];rfl
 have c2:W.cell? ⟨C,2,none⟩=some (.int .i64 c):=by rw [Lib.cell_of_heap HCW.out];rfl
 have c3:W.cell? ⟨C,3,none⟩=some (.string P):=by rw [Lib.cell_of_heap HCW.out];rfl
 have c4:W.cell? ⟨C,4,none⟩=some (.string ⟨#[]⟩):=by rw [Lib.cell_of_heap HCW.out];rfl
 have cf:∀o,W.frozen? ⟨C,o,none⟩=false:=fun o=>Lib.frozen_of_heap HCW.out o
 have hcc:=HCA.out
 have n1:¬ (A+1=C):=by omega
 have n2:¬ (C=A+1):=by omega
 have n3:¬ (A=C):=by omega
 have n4:¬ (C=A):=by omega
 clear hcc
 go_wp2
 have hcc:=HCA.out
 have hrw:=HRW.out
 refine bodyPost_ret (results_cell_row rfl _ _ (A+1) 39 #[.int .i64 a,.int .i64 b,.int .i64 c,.string ⟨#[48]⟩,.string ⟨#[]⟩] (0,0) _ rfl ?_ Tryz.underlying39 rfl (by kernel_rfl)) rfl ⟨rfl,by repeat (first | refine gb_set0 ?_ (by omega) | exact HGW.out)⟩
 simp [World.setCell,Array.getElem?_modify,hrw,n2]
set_option maxRecDepth 100000 in
set_option maxHeartbeats 800000 in
theorem rfirst2_any (a b c:Int) (P Q:ByteArray) (w:World) :
  Calls Tryz.prog 65 #[.agg #[.int .i64 2,.int .i64 a,.int .i64 b,.int .i64 c,.string P,.string Q]] w fun e w'=>e=.returned (.agg #[.int .i64 a,.int .i64 b,.int .i64 c,.string ⟨#[48]⟩,.string ⟨#[]⟩])/\w.grownBy w' none:=by
 have CP:Hid (∀w,Calls Tryz.prog 95 #[.agg #[.int .i64 a,.int .i64 b,.int .i64 c,.string P,.string Q]] w fun e w'=>e=.returned (.agg #[.int .i64 a,.int .i64 b,.int .i64 c,.string P,.string ⟨#[]⟩])/\w.grownBy w' none):=fun w=>plain_any a b c P Q w
 go_enter Tryz.func65,Tryz.ntmps65
 go_wp2_with (first | (go_at_call 95;refine (CP.out _).mono ?_))
 rintro e w1 ⟨rfl,hg⟩
 obtain ⟨A,hA⟩:∃A,w.heap.size=A:=⟨_,rfl⟩
 have HP:Hid (PR A 2 a b c P Q w1):=by
  refine PR.grow (w:=(w.alloc (.cells #[.int .i64 2,.int .i64 a,.int .i64 b,.int .i64 c,.string P,.string Q] 82)).alloc (.cells #[.int .i64 0,.int .i64 0,.int .i64 0,.string ⟨#[]⟩,.string ⟨#[]⟩] 39)) ?_ hg
  unfold PR
  rw [<-hA,Lib.alloc_old _ _ _ (by simp)];exact heap_alloc_new w _
 have HR:Hid (w1.heap[A+1]?=some (.cells #[.int .i64 0,.int .i64 0,.int .i64 0,.string ⟨#[]⟩,.string ⟨#[]⟩] 39 (0,0))):=by
  show _=_
  have:=heap_alloc_new (w.alloc (.cells #[.int .i64 2,.int .i64 a,.int .i64 b,.int .i64 c,.string P,.string Q] 82)) (.cells #[.int .i64 0,.int .i64 0,.int .i64 0,.string ⟨#[]⟩,.string ⟨#[]⟩] 39)
  rw [hg.block (A+1) (by simp;omega) (by simp),<-hA]
  simpa using this
 have HG:Hid (w.grownBy w1 none):=gb_trans (gb_alloc (gb_alloc (gb_refl w none) _) _) hg
 have HA1:Hid (w.heap.size<=A/\A+1 < w1.heap.size):=by
  refine ⟨by omega,?_⟩
  have:=(Array.getElem?_eq_some_iff.1 HR.out).1
  omega
 try rw [hA]
 clear hA hg
 obtain ⟨C,hC⟩:∃C,w1.heap.size=C:=⟨_,rfl⟩
 obtain ⟨W,hW⟩:∃W,w1.alloc (.cells #[.int .i64 a,.int .i64 b,.int .i64 c,.string P,.string ⟨#[]⟩] 39)=W:=⟨_,rfl⟩
 have hgW:w1.grownBy W none:=by rw [<-hW];exact gb_alloc (gb_refl w1 none) _
 have HPW:Hid (PR A 2 a b c P Q W):=HP.out.grow hgW
 have HRW:Hid (W.heap[A+1]?=some (.cells #[.int .i64 0,.int .i64 0,.int .i64 0,.string ⟨#[]⟩,.string ⟨#[]⟩] 39 (0,0))):=by show _=_;rw [hgW.block (A+1) HA1.out.2 (by simp)];exact HR.out
 have HCW:Hid (W.heap[C]?=some (.cells #[.int .i64 a,.int .i64 b,.int .i64 c,.string P,.string ⟨#[]⟩] 39 (0,0))):=by show _=_;rw [<-hW,<-hC];exact heap_alloc_new w1 _
 have HGW:Hid (w.grownBy W none):=gb_trans HG.out hgW
 have HCA:Hid (w.heap.size<=A/\A+1 < C):=by show _/\_;rw [<-hC];exact HA1.out
 clear hgW HP HR HG HA1
 obtain ⟨e0,e1,e2,e3,e4,e5⟩:=HPW.out.cells
 have r0:W.cell? ⟨A+1,0,none⟩=some (.int .i64 0):=by rw [Lib.cell_of_heap HRW.out];rfl
 have r1:W.cell? ⟨A+1,1,none⟩=some (.int .i64 0):=by rw [Lib.cell_of_heap HRW.out];rfl
 have r2:W.cell? ⟨A+1,2,none⟩=some (.int .i64 0):=by rw [Lib.cell_of_heap HRW.out];rfl
 have r3:W.cell? ⟨A+1,3,none⟩=some (.string ⟨#[]⟩):=by rw [Lib.cell_of_heap HRW.out];rfl
 have r4:W.cell? ⟨A+1,4,none⟩=some (.string ⟨#[]⟩):=by rw [Lib.cell_of_heap HRW.out];rfl
 have rf:∀o,W.frozen? ⟨A+1,o,none⟩=false:=fun o=>Lib.frozen_of_heap HRW.out o
 have c0:W.cell? ⟨C,0,none⟩=some (.int .i64 a):=by rw [Lib.cell_of_heap HCW.out];rfl
 have c1:W.cell? ⟨C,1,none⟩=some (.int .i64 b):=by rw [Lib.cell_of_heap HCW.out];rfl
 have c2:W.cell? ⟨C,2,none⟩=some (.int .i64 c):=by rw [Lib.cell_of_heap HCW.out];rfl
 have c3:W.cell? ⟨C,3,none⟩=some (.string P):=by rw [Lib.cell_of_heap HCW.out];rfl
 have c4:W.cell? ⟨C,4,none⟩=some (.string ⟨#[]⟩):=by rw [Lib.cell_of_heap HCW.out];rfl
 have cf:∀o,W.frozen? ⟨C,o,none⟩=false:=fun o=>Lib.frozen_of_heap HCW.out o
 have hcc:=HCA.out
 have n1:¬ (A+1=C):=by omega
 have n2:¬ (C=A+1):=by omega
 have n3:¬ (A=C):=by omega
 have n4:¬ (C=A):=by omega
 clear hcc
 go_wp2
 have hcc:=HCA.out
 have hrw:=HRW.out
 refine bodyPost_ret (results_cell_row rfl _ _ (A+1) 39 #[.int .i64 a,.int .i64 b,.int .i64 c,.string ⟨#[48]⟩,.string ⟨#[]⟩] (0,0) _ rfl ?_ Tryz.underlying39 rfl (by kernel_rfl)) rfl ⟨rfl,by repeat (first | refine gb_set0 ?_ (by omega) | exact HGW.out)⟩
 simp [World.setCell,Array.getElem?_modify,hrw,n2]
set_option maxRecDepth 100000 in
set_option maxHeartbeats 800000 in
theorem rfirst3_any (a b c:Int) (P Q:ByteArray) (w:World) :
  Calls Tryz.prog 65 #[.agg #[.int .i64 3,.int .i64 a,.int .i64 b,.int .i64 c,.string P,.string Q]] w fun e w'=>e=.returned (.agg #[.int .i64 a,.int .i64 b,.int .i64 c,.string P,.string ⟨#[]⟩])/\w.grownBy w' none:=by
 have CP:Hid (∀w,Calls Tryz.prog 95 #[.agg #[.int .i64 a,.int .i64 b,.int .i64 c,.string P,.string Q]] w fun e w'=>e=.returned (.agg #[.int .i64 a,.int .i64 b,.int .i64 c,.string P,.string ⟨#[]⟩])/\w.grownBy w' none):=fun w=>plain_any a b c P Q w
 go_enter Tryz.func65,Tryz.ntmps65
 go_wp2_with (first | (go_at_call 95;refine (CP.out _).mono ?_))
 rintro e w1 ⟨rfl,hg⟩
 obtain ⟨A,hA⟩:∃A,w.heap.size=A:=⟨_,rfl⟩
 have HP:Hid (PR A 3 a b c P Q w1):=by
  refine PR.grow (w:=(w.alloc (.cells #[.int .i64 3,.int .i64 a,.int .i64 b,.int .i64 c,.string P,.string Q] 82)).alloc (.cells #[.int .i64 0,.int .i64 0,.int .i64 0,.string ⟨#[]⟩,.string ⟨#[]⟩] 39)) ?_ hg
  unfold PR
  rw [<-hA,Lib.alloc_old _ _ _ (by simp)];exact heap_alloc_new w _
 have HR:Hid (w1.heap[A+1]?=some (.cells #[.int .i64 0,.int .i64 0,.int .i64 0,.string ⟨#[]⟩,.string ⟨#[]⟩] 39 (0,0))):=by
  show _=_
  have:=heap_alloc_new (w.alloc (.cells #[.int .i64 3,.int .i64 a,.int .i64 b,.int .i64 c,.string P,.string Q] 82)) (.cells #[.int .i64 0,.int .i64 0,.int .i64 0,.string ⟨#[]⟩,.string ⟨#[]⟩] 39)
  rw [hg.block (A+1) (by simp;omega) (by simp),<-hA]
  simpa using this
 have HG:Hid (w.grownBy w1 none):=gb_trans (gb_alloc (gb_alloc (gb_refl w none) _) _) hg
 have HA1:Hid (w.heap.size<=A/\A+1 < w1.heap.size):=by
  refine ⟨by omega,?_⟩
  have:=(Array.getElem?_eq_some_iff.1 HR.out).1
  omega
 try rw [hA]
 clear hA hg
 obtain ⟨C,hC⟩:∃C,w1.heap.size=C:=⟨_,rfl⟩
 obtain ⟨W,hW⟩:∃W,w1.alloc (.cells #[.int .i64 a,.int .i64 b,.int .i64 c,.string P,.string ⟨#[]⟩] 39)=W:=⟨_,rfl⟩
 have hgW:w1.grownBy W none:=by rw [<-hW];exact gb_alloc (gb_refl w1 none) _
 have HPW:Hid (PR A 3 a b c P Q W):=HP.out.grow hgW
 have HRW:Hid (W.heap[A+1]?=some (.cells #[.int .i64 0,.int .i64 0,.int .i64 0,.string ⟨#[]⟩,.string ⟨#[]⟩] 39 (0,0))):=by show _=_;rw [hgW.block (A+1) HA1.out.2 (by simp)];exact HR.out
 have HCW:Hid (W.heap[C]?=some (.cells #[.int .i64 a,.int .i64 b,.int .i64 c,.string P,.string ⟨#[]⟩] 39 (0,0))):=by show _=_;rw [<-hW,<-hC];exact heap_alloc_new w1 _
 have HGW:Hid (w.grownBy W none):=gb_trans HG.out hgW
 have HCA:Hid (w.heap.size<=A/\A+1 < C):=by show _/\_;rw [<-hC];exact HA1.out
 clear hgW HP HR HG HA1
 obtain ⟨e0,e1,e2,e3,e4,e5⟩:=HPW.out.cells
 have r0:W.cell? ⟨A+1,0,none⟩=some (.int .i64 0):=by rw [Lib.cell_of_heap HRW.out];rfl
 have r1:W.cell? ⟨A+1,1,none⟩=some (.int .i64 0):=by rw [Lib.cell_of_heap HRW.out];rfl
 have r2:W.cell? ⟨A+1,2,none⟩=some (.int .i64 0):=by rw [Lib.cell_of_heap HRW.out];rfl
 have r3:W.cell? ⟨A+1,3,none⟩=some (.string ⟨#[]⟩):=by rw [Lib.cell_of_heap HRW.out];rfl
 have r4:W.cell? ⟨A+1,4,none⟩=some (.string ⟨#[]⟩):=by rw [Lib.cell_of_heap HRW.out];rfl
 have rf:∀o,W.frozen? ⟨A+1,o,none⟩=false:=fun o=>Lib.frozen_of_heap HRW.out o
 have c0:W.cell? ⟨C,0,none⟩=some (.int .i64 a):=by rw [Lib.cell_of_heap HCW.out];rfl
 have c1:W.cell? ⟨C,1,none⟩=some (.int .i64 b):=by rw [Lib.cell_of_heap HCW.out];rfl
 have c2:W.cell? ⟨C,2,none⟩=some (.int .i64 c):=by rw [Lib.cell_of_heap HCW.out];rfl
 have c3:W.cell? ⟨C,3,none⟩=some (.string P):=by rw [Lib.cell_of_heap HCW.out];rfl
 have c4:W.cell? ⟨C,4,none⟩=some (.string ⟨#[]⟩):=by rw [Lib.cell_of_heap HCW.out];rfl
 have cf:∀o,W.frozen? ⟨C,o,none⟩=false:=fun o=>Lib.frozen_of_heap HCW.out o
 have hcc:=HCA.out
 have n1:¬ (A+1=C):=by omega
 have n2:¬ (C=A+1):=by omega
 have n3:¬ (A=C):=by omega
 have n4:¬ (C=A):=by omega
 clear hcc
 go_wp2
 have hcc:=HCA.out
 have hrw:=HRW.out
 refine bodyPost_ret (results_cell_row rfl _ _ (A+1) 39 #[.int .i64 a,.int .i64 b,.int .i64 c,.string P,.string ⟨#[]⟩] (0,0) _ rfl ?_ Tryz.underlying39 rfl (by kernel_rfl)) rfl ⟨rfl,by repeat (first | refine gb_set0 ?_ (by omega) | exact HGW.out)⟩
 simp [World.setCell,Array.getElem?_modify,hrw,n2]
end Go.Proofs.YtonfldbigenfhaaGreatDoor
