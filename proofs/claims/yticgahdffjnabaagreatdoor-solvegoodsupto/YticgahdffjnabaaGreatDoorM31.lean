import Derived.Test.YticgahdffjnabaaGreatDoorM06
import Derived.Test.YticgahdffjnabaaGreatDoorM13
import Derived.Test.YticgahdffjnabaaGreatDoorM30
import Derived.Deep.RegionHeld3
set_option linter.unusedVariables false
set_option maxHeartbeats 1600000
namespace Go.Proofs.YticgahdffjnabaaGreatDoor
open Go.RowKit
def PR (A:Nat) (n a b c:Int) (P Q:ByteArray) (w:World):Prop:=w.heap[A]?=some (.cells #[.int .i64 n,.int .i64 a,.int .i64 b,.int .i64 c,.string P,.string Q] 129 (0,0))
theorem PR.cells {A:Nat} {n a b c:Int} {P Q:ByteArray} {w:World} (h:PR A n a b c P Q w):w.cell? ⟨A,0,none⟩=some (.int .i64 n)/\w.cell? ⟨A,1,none⟩=some (.int .i64 a)/\w.cell? ⟨A,2,none⟩=some (.int .i64 b)/\w.cell? ⟨A,3,none⟩=some (.int .i64 c)/\w.cell? ⟨A,4,none⟩=some (.string P)/\w.cell? ⟨A,5,none⟩=some (.string Q) :=
 ⟨by rw [cOH h];rfl,by rw [cOH h];rfl,by rw [cOH h];rfl,by rw [cOH h];rfl,by rw [cOH h];rfl,by rw [cOH h];rfl⟩
theorem gb_set0 {w x:World} {B:Nat} (h:w.grownBy x none) (hB:w.heap.size<=B) {o:Nat} {v:Value}:w.grownBy (x.setCell ⟨B,o,none⟩ v) none:=by
 refine ⟨h.os,h.tape,h.output,by simpa [World.setCell] using h.size,fun k hk hn=>?_⟩;rw [<-h.block k hk hn];exact heap_setCell_other x _ k v (by simp;omega)
theorem PR.grow {A:Nat} {n a b c:Int} {P Q:ByteArray} {w w':World} (h:PR A n a b c P Q w) (hg:w.grownBy w' none):PR A n a b c P Q w':=by
 unfold PR at h ⊢;rw [hg.block A ((hqL h)) (by simp)];exact h
set_option maxRecDepth 100000 in
theorem rnamed0_any (a b c v1 v2 v3:Int) (P Q v4 v5:ByteArray) (w:World) :
  Calls Tryz.prog 83 #[.agg #[.int .i64 0,.int .i64 a,.int .i64 b,.int .i64 c,.string P,.string Q],.agg #[.int .i64 v1,.int .i64 v2,.int .i64 v3,.string v4,.string v5]] w fun e w'=>e=.returned (.bool (namedB ⟨0,a,b,c,P.data.toList⟩ ⟨v1,v2,v3,v4.data.toList⟩))/\w.grownBy w' none:=by
 go_enter Tryz.func83,Tryz.ntmps83;go_wp2
 all_goals go_ret
 all_goals (refine ⟨ret_bool ?_,gb_alloc (gb_alloc (gb_refl w none) _) _⟩;simp_all [namedB] <;> rfl)
set_option maxRecDepth 100000 in
theorem rnamed1_any (a b c v1 v2 v3:Int) (P Q v4 v5:ByteArray) (w:World) :
  Calls Tryz.prog 83 #[.agg #[.int .i64 1,.int .i64 a,.int .i64 b,.int .i64 c,.string P,.string Q],.agg #[.int .i64 v1,.int .i64 v2,.int .i64 v3,.string v4,.string v5]] w fun e w'=>e=.returned (.bool (namedB ⟨1,a,b,c,P.data.toList⟩ ⟨v1,v2,v3,v4.data.toList⟩))/\w.grownBy w' none:=by
 go_enter Tryz.func83,Tryz.ntmps83;go_wp2
 all_goals go_ret
 all_goals (refine ⟨ret_bool ?_,gb_alloc (gb_alloc (gb_refl w none) _) _⟩;simp_all [namedB] <;> rfl)
set_option maxRecDepth 100000 in
theorem rnamed2_any (a b c v1 v2 v3:Int) (P Q v4 v5:ByteArray) (w:World) :
  Calls Tryz.prog 83 #[.agg #[.int .i64 2,.int .i64 a,.int .i64 b,.int .i64 c,.string P,.string Q],.agg #[.int .i64 v1,.int .i64 v2,.int .i64 v3,.string v4,.string v5]] w fun e w'=>e=.returned (.bool (namedB ⟨2,a,b,c,P.data.toList⟩ ⟨v1,v2,v3,v4.data.toList⟩))/\w.grownBy w' none:=by
 go_enter Tryz.func83,Tryz.ntmps83;go_wp2
 all_goals go_ret
 all_goals (refine ⟨ret_bool ?_,gb_alloc (gb_alloc (gb_refl w none) _) _⟩;simp_all [namedB] <;> rfl)
set_option maxRecDepth 100000 in
theorem rnamed3_any (a b c v1 v2 v3:Int) (P Q v4 v5:ByteArray) (w:World) (hp:P.size<=1048576) (hv:v4.size<=1048576) :
  Calls Tryz.prog 83 #[.agg #[.int .i64 3,.int .i64 a,.int .i64 b,.int .i64 c,.string P,.string Q],.agg #[.int .i64 v1,.int .i64 v2,.int .i64 v3,.string v4,.string v5]] w fun e w'=>e=.returned (.bool (namedB ⟨3,a,b,c,P.data.toList⟩ ⟨v1,v2,v3,v4.data.toList⟩))/\w.grownBy w' none:=by
 obtain ⟨x,hx⟩:=nm (verC ⟨a,b,c,P.data.toList⟩ ⟨v1,v2,v3,v4.data.toList⟩);have HR:Hd (namedB ⟨3,a,b,c,P.data.toList⟩ ⟨v1,v2,v3,v4.data.toList⟩=decide (x=0)):=by show _=_;rw [<-hx];rfl
 have CC:Hd (∀w,Calls Tryz.prog 42 #[.agg #[.int .i64 a,.int .i64 b,.int .i64 c,.string P,.string Q],.agg #[.int .i64 v1,.int .i64 v2,.int .i64 v3,.string v4,.string v5]] w fun e w'=>e=.returned (.int .i64 x)/\w.grownBy w' none):=fun w=>by
  rw [<-hx];refine (rcompare_any a b c v1 v2 v3 P Q v4 v5 w hp hv).mono ?_;rintro e w' ⟨rfl,h⟩;exact ⟨rfl,below_gb' h⟩
 obtain ⟨R,hR⟩:=nm (namedB ⟨3,a,b,c,P.data.toList⟩ ⟨v1,v2,v3,v4.data.toList⟩);rw [hR] at HR ⊢;clear hx hp hv hR;go_enter Tryz.func83,Tryz.ntmps83;go_wp2_with (first | (go_at_call 42;refine (CC.o _).mono ?_));rintro e w1 ⟨rfl,hg⟩;have HG:Hd (w.grownBy w1 none):=gb_trans (gb_alloc (gb_alloc (gb_refl w none) _) _) hg;clear hg;go_wp2;go_ret;exact ⟨ret_bool (by rw [HR.o];rfl),HG.o⟩
set_option maxRecDepth 100000 in
theorem rplace0_any (a b c v1 v2 v3:Int) (P Q v4 v5:ByteArray) (w:World) (hp:P.size<=1048576) (hv:v4.size<=1048576) :
  Calls Tryz.prog 82 #[.agg #[.int .i64 0,.int .i64 a,.int .i64 b,.int .i64 c,.string P,.string Q],.agg #[.int .i64 v1,.int .i64 v2,.int .i64 v3,.string v4,.string v5]] w fun e w'=>e=.returned (.int .i64 (placeB ⟨0,a,b,c,P.data.toList⟩ ⟨v1,v2,v3,v4.data.toList⟩))/\w.grownBy w' none:=by
 obtain ⟨N,hN⟩:=nm (namedB ⟨0,a,b,c,P.data.toList⟩ ⟨v1,v2,v3,v4.data.toList⟩);obtain ⟨x,hx⟩:=nm (verC ⟨v1,v2,v3,v4.data.toList⟩ (paV ⟨0,a,b,c,P.data.toList⟩));have HR:Hd (placeB ⟨0,a,b,c,P.data.toList⟩ ⟨v1,v2,v3,v4.data.toList⟩=if (N || decide (0=0))=true then 0 else x):=by show _=_;unfold placeB;rw [hN,hx]
 have CN:Hd (∀w,Calls Tryz.prog 83 #[.agg #[.int .i64 0,.int .i64 a,.int .i64 b,.int .i64 c,.string P,.string Q],.agg #[.int .i64 v1,.int .i64 v2,.int .i64 v3,.string v4,.string v5]] w fun e w'=>e=.returned (.bool N)/\w.grownBy w' none):=fun w=>by rw [<-hN];exact rnamed0_any a b c v1 v2 v3 P Q v4 v5 w
 have CC:Hd (∀w,Calls Tryz.prog 42 #[.agg #[.int .i64 v1,.int .i64 v2,.int .i64 v3,.string v4,.string v5],.agg #[.int .i64 a,.int .i64 b,.int .i64 c,.string P,.string Q]] w fun e w'=>e=.returned (.int .i64 x)/\w.grownBy w' none):=fun w=>by
  rw [<-hx];refine (rcompare_any v1 v2 v3 a b c v4 v5 P Q w hv hp).mono ?_;rintro e w' ⟨rfl,h⟩;exact ⟨rfl,below_gb' h⟩
 obtain ⟨R,hR⟩:=nm (placeB ⟨0,a,b,c,P.data.toList⟩ ⟨v1,v2,v3,v4.data.toList⟩);rw [hR] at HR ⊢;have HN0:Hd (N=true):=by show N=true;rw [<-hN];rfl
 clear hN hx hp hv hR
 cases N with
 | true =>
  go_enter Tryz.func82,Tryz.ntmps82;go_wp2_with (first | (go_at_call 83;refine (CN.o _).mono ?_));rintro e w1 rfl hg;obtain ⟨A,hA⟩:=nm (w.heap.size);have HP:Hd (PR A 0 a b c P Q w1):=by
   refine PR.grow (w:=(w.alloc (.cells #[.int .i64 0,.int .i64 a,.int .i64 b,.int .i64 c,.string P,.string Q] 129)).alloc (.cells #[.int .i64 v1,.int .i64 v2,.int .i64 v3,.string v4,.string v5] 89)) ?_ hg;unfold PR;rw [<-hA,Lib.alloc_old _ _ _ (by simp)];exact heap_alloc_new w _
  have HV:Hd (St (A+1) v1 v2 v3 v4 v5 w1):=by
   refine St.grow ?_ hg;refine st_row (t:=89) ?_;have:=heap_alloc_new (w.alloc (.cells #[.int .i64 0,.int .i64 a,.int .i64 b,.int .i64 c,.string P,.string Q] 129)) (.cells #[.int .i64 v1,.int .i64 v2,.int .i64 v3,.string v4,.string v5] 89);rw [<-hA];simpa using this
  have HG:Hd (w.grownBy w1 none):=gb_trans (gb_alloc (gb_alloc (gb_refl w none) _) _) hg
  try rw [hA]
  clear hA hg;obtain ⟨e0,e1,e2,e3,e4,e5⟩:=HP.o.cells;obtain ⟨s1,s2,s3,s4,s5⟩:=HV.o;go_wp2;go_ret;exact ⟨ret_int (by rw [HR.o];rfl),HG.o⟩
 | false=>exact absurd HN0.o (by decide)
set_option maxRecDepth 100000 in
theorem rplace1_any (a b c v1 v2 v3:Int) (P Q v4 v5:ByteArray) (w:World) (hp:P.size<=1048576) (hv:v4.size<=1048576) :
  Calls Tryz.prog 82 #[.agg #[.int .i64 1,.int .i64 a,.int .i64 b,.int .i64 c,.string P,.string Q],.agg #[.int .i64 v1,.int .i64 v2,.int .i64 v3,.string v4,.string v5]] w fun e w'=>e=.returned (.int .i64 (placeB ⟨1,a,b,c,P.data.toList⟩ ⟨v1,v2,v3,v4.data.toList⟩))/\w.grownBy w' none:=by
 obtain ⟨N,hN⟩:=nm (namedB ⟨1,a,b,c,P.data.toList⟩ ⟨v1,v2,v3,v4.data.toList⟩);obtain ⟨x,hx⟩:=nm (verC ⟨v1,v2,v3,v4.data.toList⟩ (paV ⟨1,a,b,c,P.data.toList⟩));have HR:Hd (placeB ⟨1,a,b,c,P.data.toList⟩ ⟨v1,v2,v3,v4.data.toList⟩=if (N || decide (1=0))=true then 0 else x):=by show _=_;unfold placeB;rw [hN,hx]
 have CN:Hd (∀w,Calls Tryz.prog 83 #[.agg #[.int .i64 1,.int .i64 a,.int .i64 b,.int .i64 c,.string P,.string Q],.agg #[.int .i64 v1,.int .i64 v2,.int .i64 v3,.string v4,.string v5]] w fun e w'=>e=.returned (.bool N)/\w.grownBy w' none):=fun w=>by rw [<-hN];exact rnamed1_any a b c v1 v2 v3 P Q v4 v5 w
 have CC:Hd (∀w,Calls Tryz.prog 42 #[.agg #[.int .i64 v1,.int .i64 v2,.int .i64 v3,.string v4,.string v5],.agg #[.int .i64 a,.int .i64 b,.int .i64 c,.string P,.string Q]] w fun e w'=>e=.returned (.int .i64 x)/\w.grownBy w' none):=fun w=>by
  rw [<-hx];refine (rcompare_any v1 v2 v3 a b c v4 v5 P Q w hv hp).mono ?_;rintro e w' ⟨rfl,h⟩;exact ⟨rfl,below_gb' h⟩
 obtain ⟨R,hR⟩:=nm (placeB ⟨1,a,b,c,P.data.toList⟩ ⟨v1,v2,v3,v4.data.toList⟩);rw [hR] at HR ⊢;clear hN hx hp hv hR
 cases N with
 | true =>
  go_enter Tryz.func82,Tryz.ntmps82;go_wp2_with (first | (go_at_call 83;refine (CN.o _).mono ?_));rintro e w1 ⟨rfl,hg⟩;obtain ⟨A,hA⟩:=nm (w.heap.size);have HP:Hd (PR A 1 a b c P Q w1):=by
   refine PR.grow (w:=(w.alloc (.cells #[.int .i64 1,.int .i64 a,.int .i64 b,.int .i64 c,.string P,.string Q] 129)).alloc (.cells #[.int .i64 v1,.int .i64 v2,.int .i64 v3,.string v4,.string v5] 89)) ?_ hg;unfold PR;rw [<-hA,Lib.alloc_old _ _ _ (by simp)];exact heap_alloc_new w _
  have HV:Hd (St (A+1) v1 v2 v3 v4 v5 w1):=by
   refine St.grow ?_ hg;refine st_row (t:=89) ?_;have:=heap_alloc_new (w.alloc (.cells #[.int .i64 1,.int .i64 a,.int .i64 b,.int .i64 c,.string P,.string Q] 129)) (.cells #[.int .i64 v1,.int .i64 v2,.int .i64 v3,.string v4,.string v5] 89);rw [<-hA];simpa using this
  have HG:Hd (w.grownBy w1 none):=gb_trans (gb_alloc (gb_alloc (gb_refl w none) _) _) hg
  try rw [hA]
  clear hA hg;obtain ⟨e0,e1,e2,e3,e4,e5⟩:=HP.o.cells;obtain ⟨s1,s2,s3,s4,s5⟩:=HV.o;go_wp2;go_ret;exact ⟨ret_int (by rw [HR.o];rfl),HG.o⟩
 | false =>
  go_enter Tryz.func82,Tryz.ntmps82;go_wp2_with (first | (go_at_call 83;refine (CN.o _).mono ?_));rintro e w1 ⟨rfl,hg⟩;obtain ⟨A,hA⟩:=nm (w.heap.size);have HP:Hd (PR A 1 a b c P Q w1):=by
   refine PR.grow (w:=(w.alloc (.cells #[.int .i64 1,.int .i64 a,.int .i64 b,.int .i64 c,.string P,.string Q] 129)).alloc (.cells #[.int .i64 v1,.int .i64 v2,.int .i64 v3,.string v4,.string v5] 89)) ?_ hg;unfold PR;rw [<-hA,Lib.alloc_old _ _ _ (by simp)];exact heap_alloc_new w _
  have HV:Hd (St (A+1) v1 v2 v3 v4 v5 w1):=by
   refine St.grow ?_ hg;refine st_row (t:=89) ?_;have:=heap_alloc_new (w.alloc (.cells #[.int .i64 1,.int .i64 a,.int .i64 b,.int .i64 c,.string P,.string Q] 129)) (.cells #[.int .i64 v1,.int .i64 v2,.int .i64 v3,.string v4,.string v5] 89);rw [<-hA];simpa using this
  have HG:Hd (w.grownBy w1 none):=gb_trans (gb_alloc (gb_alloc (gb_refl w none) _) _) hg
  try rw [hA]
  clear hA hg;obtain ⟨e0,e1,e2,e3,e4,e5⟩:=HP.o.cells;obtain ⟨s1,s2,s3,s4,s5⟩:=HV.o;go_wp2_with (first | (go_at_call 42;refine (CC.o _).mono ?_;rintro e w2 ⟨rfl,hg2⟩));go_ret;exact ⟨ret_int (by rw [HR.o];rfl),gb_trans HG.o hg2⟩
set_option maxRecDepth 100000 in
theorem rplace2_any (a b c v1 v2 v3:Int) (P Q v4 v5:ByteArray) (w:World) (hp:P.size<=1048576) (hv:v4.size<=1048576) :
  Calls Tryz.prog 82 #[.agg #[.int .i64 2,.int .i64 a,.int .i64 b,.int .i64 c,.string P,.string Q],.agg #[.int .i64 v1,.int .i64 v2,.int .i64 v3,.string v4,.string v5]] w fun e w'=>e=.returned (.int .i64 (placeB ⟨2,a,b,c,P.data.toList⟩ ⟨v1,v2,v3,v4.data.toList⟩))/\w.grownBy w' none:=by
 obtain ⟨N,hN⟩:=nm (namedB ⟨2,a,b,c,P.data.toList⟩ ⟨v1,v2,v3,v4.data.toList⟩);obtain ⟨x,hx⟩:=nm (verC ⟨v1,v2,v3,v4.data.toList⟩ (paV ⟨2,a,b,c,P.data.toList⟩));have HR:Hd (placeB ⟨2,a,b,c,P.data.toList⟩ ⟨v1,v2,v3,v4.data.toList⟩=if (N || decide (2=0))=true then 0 else x):=by show _=_;unfold placeB;rw [hN,hx]
 have CN:Hd (∀w,Calls Tryz.prog 83 #[.agg #[.int .i64 2,.int .i64 a,.int .i64 b,.int .i64 c,.string P,.string Q],.agg #[.int .i64 v1,.int .i64 v2,.int .i64 v3,.string v4,.string v5]] w fun e w'=>e=.returned (.bool N)/\w.grownBy w' none):=fun w=>by rw [<-hN];exact rnamed2_any a b c v1 v2 v3 P Q v4 v5 w
 have CC:Hd (∀w,Calls Tryz.prog 42 #[.agg #[.int .i64 v1,.int .i64 v2,.int .i64 v3,.string v4,.string v5],.agg #[.int .i64 a,.int .i64 b,.int .i64 c,.string P,.string Q]] w fun e w'=>e=.returned (.int .i64 x)/\w.grownBy w' none):=fun w=>by
  rw [<-hx];refine (rcompare_any v1 v2 v3 a b c v4 v5 P Q w hv hp).mono ?_;rintro e w' ⟨rfl,h⟩;exact ⟨rfl,below_gb' h⟩
 obtain ⟨R,hR⟩:=nm (placeB ⟨2,a,b,c,P.data.toList⟩ ⟨v1,v2,v3,v4.data.toList⟩);rw [hR] at HR ⊢;clear hN hx hp hv hR
 cases N with
 | true =>
  go_enter Tryz.func82,Tryz.ntmps82;go_wp2_with (first | (go_at_call 83;refine (CN.o _).mono ?_));rintro e w1 ⟨rfl,hg⟩;obtain ⟨A,hA⟩:=nm (w.heap.size);have HP:Hd (PR A 2 a b c P Q w1):=by
   refine PR.grow (w:=(w.alloc (.cells #[.int .i64 2,.int .i64 a,.int .i64 b,.int .i64 c,.string P,.string Q] 129)).alloc (.cells #[.int .i64 v1,.int .i64 v2,.int .i64 v3,.string v4,.string v5] 89)) ?_ hg;unfold PR;rw [<-hA,Lib.alloc_old _ _ _ (by simp)];exact heap_alloc_new w _
  have HV:Hd (St (A+1) v1 v2 v3 v4 v5 w1):=by
   refine St.grow ?_ hg;refine st_row (t:=89) ?_;have:=heap_alloc_new (w.alloc (.cells #[.int .i64 2,.int .i64 a,.int .i64 b,.int .i64 c,.string P,.string Q] 129)) (.cells #[.int .i64 v1,.int .i64 v2,.int .i64 v3,.string v4,.string v5] 89);rw [<-hA];simpa using this
  have HG:Hd (w.grownBy w1 none):=gb_trans (gb_alloc (gb_alloc (gb_refl w none) _) _) hg
  try rw [hA]
  clear hA hg;obtain ⟨e0,e1,e2,e3,e4,e5⟩:=HP.o.cells;obtain ⟨s1,s2,s3,s4,s5⟩:=HV.o;go_wp2;go_ret;exact ⟨ret_int (by rw [HR.o];rfl),HG.o⟩
 | false =>
  go_enter Tryz.func82,Tryz.ntmps82;go_wp2_with (first | (go_at_call 83;refine (CN.o _).mono ?_));rintro e w1 ⟨rfl,hg⟩;obtain ⟨A,hA⟩:=nm (w.heap.size);have HP:Hd (PR A 2 a b c P Q w1):=by
   refine PR.grow (w:=(w.alloc (.cells #[.int .i64 2,.int .i64 a,.int .i64 b,.int .i64 c,.string P,.string Q] 129)).alloc (.cells #[.int .i64 v1,.int .i64 v2,.int .i64 v3,.string v4,.string v5] 89)) ?_ hg;unfold PR;rw [<-hA,Lib.alloc_old _ _ _ (by simp)];exact heap_alloc_new w _
  have HV:Hd (St (A+1) v1 v2 v3 v4 v5 w1):=by
   refine St.grow ?_ hg;refine st_row (t:=89) ?_;have:=heap_alloc_new (w.alloc (.cells #[.int .i64 2,.int .i64 a,.int .i64 b,.int .i64 c,.string P,.string Q] 129)) (.cells #[.int .i64 v1,.int .i64 v2,.int .i64 v3,.string v4,.string v5] 89);rw [<-hA];simpa using this
  have HG:Hd (w.grownBy w1 none):=gb_trans (gb_alloc (gb_alloc (gb_refl w none) _) _) hg
  try rw [hA]
  clear hA hg;obtain ⟨e0,e1,e2,e3,e4,e5⟩:=HP.o.cells;obtain ⟨s1,s2,s3,s4,s5⟩:=HV.o;go_wp2_with (first | (go_at_call 42;refine (CC.o _).mono ?_;rintro e w2 ⟨rfl,hg2⟩));go_ret;exact ⟨ret_int (by rw [HR.o];rfl),gb_trans HG.o hg2⟩
set_option maxRecDepth 100000 in
theorem rplace3_any (a b c v1 v2 v3:Int) (P Q v4 v5:ByteArray) (w:World) (hp:P.size<=1048576) (hv:v4.size<=1048576) :
  Calls Tryz.prog 82 #[.agg #[.int .i64 3,.int .i64 a,.int .i64 b,.int .i64 c,.string P,.string Q],.agg #[.int .i64 v1,.int .i64 v2,.int .i64 v3,.string v4,.string v5]] w fun e w'=>e=.returned (.int .i64 (placeB ⟨3,a,b,c,P.data.toList⟩ ⟨v1,v2,v3,v4.data.toList⟩))/\w.grownBy w' none:=by
 obtain ⟨N,hN⟩:=nm (namedB ⟨3,a,b,c,P.data.toList⟩ ⟨v1,v2,v3,v4.data.toList⟩);obtain ⟨x,hx⟩:=nm (verC ⟨v1,v2,v3,v4.data.toList⟩ (paV ⟨3,a,b,c,P.data.toList⟩));have HR:Hd (placeB ⟨3,a,b,c,P.data.toList⟩ ⟨v1,v2,v3,v4.data.toList⟩=if (N || decide (3=0))=true then 0 else x):=by show _=_;unfold placeB;rw [hN,hx]
 have CN:Hd (∀w,Calls Tryz.prog 83 #[.agg #[.int .i64 3,.int .i64 a,.int .i64 b,.int .i64 c,.string P,.string Q],.agg #[.int .i64 v1,.int .i64 v2,.int .i64 v3,.string v4,.string v5]] w fun e w'=>e=.returned (.bool N)/\w.grownBy w' none):=fun w=>by rw [<-hN];exact rnamed3_any a b c v1 v2 v3 P Q v4 v5 w hp hv
 have CC:Hd (∀w,Calls Tryz.prog 42 #[.agg #[.int .i64 v1,.int .i64 v2,.int .i64 v3,.string v4,.string v5],.agg #[.int .i64 a,.int .i64 b,.int .i64 c,.string P,.string Q]] w fun e w'=>e=.returned (.int .i64 x)/\w.grownBy w' none):=fun w=>by
  rw [<-hx];refine (rcompare_any v1 v2 v3 a b c v4 v5 P Q w hv hp).mono ?_;rintro e w' ⟨rfl,h⟩;exact ⟨rfl,below_gb' h⟩
 obtain ⟨R,hR⟩:=nm (placeB ⟨3,a,b,c,P.data.toList⟩ ⟨v1,v2,v3,v4.data.toList⟩);rw [hR] at HR ⊢;clear hN hx hp hv hR
 cases N with
 | true =>
  go_enter Tryz.func82,Tryz.ntmps82;go_wp2_with (first | (go_at_call 83;refine (CN.o _).mono ?_));rintro e w1 ⟨rfl,hg⟩;obtain ⟨A,hA⟩:=nm (w.heap.size);have HP:Hd (PR A 3 a b c P Q w1):=by
   refine PR.grow (w:=(w.alloc (.cells #[.int .i64 3,.int .i64 a,.int .i64 b,.int .i64 c,.string P,.string Q] 129)).alloc (.cells #[.int .i64 v1,.int .i64 v2,.int .i64 v3,.string v4,.string v5] 89)) ?_ hg;unfold PR;rw [<-hA,Lib.alloc_old _ _ _ (by simp)];exact heap_alloc_new w _
  have HV:Hd (St (A+1) v1 v2 v3 v4 v5 w1):=by
   refine St.grow ?_ hg;refine st_row (t:=89) ?_;have:=heap_alloc_new (w.alloc (.cells #[.int .i64 3,.int .i64 a,.int .i64 b,.int .i64 c,.string P,.string Q] 129)) (.cells #[.int .i64 v1,.int .i64 v2,.int .i64 v3,.string v4,.string v5] 89);rw [<-hA];simpa using this
  have HG:Hd (w.grownBy w1 none):=gb_trans (gb_alloc (gb_alloc (gb_refl w none) _) _) hg
  try rw [hA]
  clear hA hg;obtain ⟨e0,e1,e2,e3,e4,e5⟩:=HP.o.cells;obtain ⟨s1,s2,s3,s4,s5⟩:=HV.o;go_wp2;go_ret;exact ⟨ret_int (by rw [HR.o];rfl),HG.o⟩
 | false =>
  go_enter Tryz.func82,Tryz.ntmps82;go_wp2_with (first | (go_at_call 83;refine (CN.o _).mono ?_));rintro e w1 ⟨rfl,hg⟩;obtain ⟨A,hA⟩:=nm (w.heap.size);have HP:Hd (PR A 3 a b c P Q w1):=by
   refine PR.grow (w:=(w.alloc (.cells #[.int .i64 3,.int .i64 a,.int .i64 b,.int .i64 c,.string P,.string Q] 129)).alloc (.cells #[.int .i64 v1,.int .i64 v2,.int .i64 v3,.string v4,.string v5] 89)) ?_ hg;unfold PR;rw [<-hA,Lib.alloc_old _ _ _ (by simp)];exact heap_alloc_new w _
  have HV:Hd (St (A+1) v1 v2 v3 v4 v5 w1):=by
   refine St.grow ?_ hg;refine st_row (t:=89) ?_;have:=heap_alloc_new (w.alloc (.cells #[.int .i64 3,.int .i64 a,.int .i64 b,.int .i64 c,.string P,.string Q] 129)) (.cells #[.int .i64 v1,.int .i64 v2,.int .i64 v3,.string v4,.string v5] 89);rw [<-hA];simpa using this
  have HG:Hd (w.grownBy w1 none):=gb_trans (gb_alloc (gb_alloc (gb_refl w none) _) _) hg
  try rw [hA]
  clear hA hg;obtain ⟨e0,e1,e2,e3,e4,e5⟩:=HP.o.cells;obtain ⟨s1,s2,s3,s4,s5⟩:=HV.o;go_wp2_with (first | (go_at_call 42;refine (CC.o _).mono ?_;rintro e w2 ⟨rfl,hg2⟩));go_ret;exact ⟨ret_int (by rw [HR.o];rfl),gb_trans HG.o hg2⟩
set_option maxRecDepth 100000 in
theorem rleads0_any (a b c v1 v2 v3:Int) (P Q v4 v5:ByteArray) (w:World) :
  Calls Tryz.prog 85 #[.agg #[.int .i64 0,.int .i64 a,.int .i64 b,.int .i64 c,.string P,.string Q],.agg #[.int .i64 v1,.int .i64 v2,.int .i64 v3,.string v4,.string v5]] w fun e w'=>e=.returned (.bool (leadsB ⟨0,a,b,c,P.data.toList⟩ ⟨v1,v2,v3,v4.data.toList⟩))/\w.grownBy w' none:=by
 go_enter Tryz.func85,Tryz.ntmps85;go_wp2
 all_goals go_ret
 all_goals (refine ⟨ret_bool ?_,gb_alloc (gb_alloc (gb_refl w none) _) _⟩;simp_all [leadsB] <;> first | omega | rfl | (rw [Bool.eq_iff_iff];simp;omega))
set_option maxRecDepth 100000 in
theorem rleads1_any (a b c v1 v2 v3:Int) (P Q v4 v5:ByteArray) (w:World) :
  Calls Tryz.prog 85 #[.agg #[.int .i64 1,.int .i64 a,.int .i64 b,.int .i64 c,.string P,.string Q],.agg #[.int .i64 v1,.int .i64 v2,.int .i64 v3,.string v4,.string v5]] w fun e w'=>e=.returned (.bool (leadsB ⟨1,a,b,c,P.data.toList⟩ ⟨v1,v2,v3,v4.data.toList⟩))/\w.grownBy w' none:=by
 go_enter Tryz.func85,Tryz.ntmps85;go_wp2
 all_goals go_ret
 all_goals (refine ⟨ret_bool ?_,gb_alloc (gb_alloc (gb_refl w none) _) _⟩;simp_all [leadsB] <;> first | omega | rfl | (rw [Bool.eq_iff_iff];simp;omega))
set_option maxRecDepth 100000 in
theorem rleads2_any (a b c v1 v2 v3:Int) (P Q v4 v5:ByteArray) (w:World) :
  Calls Tryz.prog 85 #[.agg #[.int .i64 2,.int .i64 a,.int .i64 b,.int .i64 c,.string P,.string Q],.agg #[.int .i64 v1,.int .i64 v2,.int .i64 v3,.string v4,.string v5]] w fun e w'=>e=.returned (.bool (leadsB ⟨2,a,b,c,P.data.toList⟩ ⟨v1,v2,v3,v4.data.toList⟩))/\w.grownBy w' none:=by
 go_enter Tryz.func85,Tryz.ntmps85;go_wp2
 all_goals go_ret
 all_goals (refine ⟨ret_bool ?_,gb_alloc (gb_alloc (gb_refl w none) _) _⟩;simp_all [leadsB] <;> first | omega | rfl | (rw [Bool.eq_iff_iff];simp;omega))
set_option maxRecDepth 100000 in
theorem rleads3_any (a b c v1 v2 v3:Int) (P Q v4 v5:ByteArray) (w:World) :
  Calls Tryz.prog 85 #[.agg #[.int .i64 3,.int .i64 a,.int .i64 b,.int .i64 c,.string P,.string Q],.agg #[.int .i64 v1,.int .i64 v2,.int .i64 v3,.string v4,.string v5]] w fun e w'=>e=.returned (.bool (leadsB ⟨3,a,b,c,P.data.toList⟩ ⟨v1,v2,v3,v4.data.toList⟩))/\w.grownBy w' none:=by
 go_enter Tryz.func85,Tryz.ntmps85;go_wp2
 all_goals go_ret
 all_goals (refine ⟨ret_bool ?_,gb_alloc (gb_alloc (gb_refl w none) _) _⟩;simp_all [leadsB] <;> first | omega | rfl | (rw [Bool.eq_iff_iff];simp;omega))
set_option maxRecDepth 100000 in
theorem rfirst0_any (a b c:Int) (P Q:ByteArray) (w:World) :
  Calls Tryz.prog 84 #[.agg #[.int .i64 0,.int .i64 a,.int .i64 b,.int .i64 c,.string P,.string Q]] w fun e w'=>e=.returned (.agg #[.int .i64 a,.int .i64 b,.int .i64 c,.string ⟨#[48]⟩,.string ⟨#[]⟩])/\w.grownBy w' none:=by
 have CP:Hd (∀w,Calls Tryz.prog 109 #[.agg #[.int .i64 a,.int .i64 b,.int .i64 c,.string P,.string Q]] w fun e w'=>e=.returned (.agg #[.int .i64 a,.int .i64 b,.int .i64 c,.string P,.string ⟨#[]⟩])/\w.grownBy w' none):=fun w=>plain_any a b c P Q w
 go_enter Tryz.func84,Tryz.ntmps84;go_wp2_with (first | (go_at_call 109;refine (CP.o _).mono ?_));rintro e w1 ⟨rfl,hg⟩;obtain ⟨A,hA⟩:=nm (w.heap.size);have HP:Hd (PR A 0 a b c P Q w1):=by
  refine PR.grow (w:=(w.alloc (.cells #[.int .i64 0,.int .i64 a,.int .i64 b,.int .i64 c,.string P,.string Q] 129)).alloc (.cells #[.int .i64 0,.int .i64 0,.int .i64 0,.string ⟨#[]⟩,.string ⟨#[]⟩] 89)) ?_ hg;unfold PR;rw [<-hA,Lib.alloc_old _ _ _ (by simp)];exact heap_alloc_new w _
 have HR:Hd (w1.heap[A+1]?=some (.cells #[.int .i64 0,.int .i64 0,.int .i64 0,.string ⟨#[]⟩,.string ⟨#[]⟩] 89 (0,0))):=by
  show _=_;have:=heap_alloc_new (w.alloc (.cells #[.int .i64 0,.int .i64 a,.int .i64 b,.int .i64 c,.string P,.string Q] 129)) (.cells #[.int .i64 0,.int .i64 0,.int .i64 0,.string ⟨#[]⟩,.string ⟨#[]⟩] 89);rw [hg.block (A+1) (by simp;omega) (by simp),<-hA];simpa using this
 have HG:Hd (w.grownBy w1 none):=gb_trans (gb_alloc (gb_alloc (gb_refl w none) _) _) hg;have HA1:Hd (w.heap.size<=A/\A+1 < w1.heap.size):=by
  refine ⟨by omega,?_⟩;have:=(hqL HR.o);omega
 try rw [hA]
 clear hA hg;obtain ⟨C,hC⟩:=nm (w1.heap.size);obtain ⟨W,hW⟩:=nm (w1.alloc (.cells #[.int .i64 a,.int .i64 b,.int .i64 c,.string P,.string ⟨#[]⟩] 89));have hgW:w1.grownBy W none:=by rw [<-hW];exact gb_alloc (gb_refl w1 none) _
 have HPW:Hd (PR A 0 a b c P Q W):=HP.o.grow hgW;have HRW:Hd (W.heap[A+1]?=some (.cells #[.int .i64 0,.int .i64 0,.int .i64 0,.string ⟨#[]⟩,.string ⟨#[]⟩] 89 (0,0))):=by show _=_;rw [hgW.block (A+1) HA1.o.2 (by simp)];exact HR.o
 have HCW:Hd (W.heap[C]?=some (.cells #[.int .i64 a,.int .i64 b,.int .i64 c,.string P,.string ⟨#[]⟩] 89 (0,0))):=by show _=_;rw [<-hW,<-hC];exact heap_alloc_new w1 _
 have HGW:Hd (w.grownBy W none):=gb_trans HG.o hgW;have HCA:Hd (w.heap.size<=A/\A+1 < C):=by show _/\_;rw [<-hC];exact HA1.o
 clear hgW HP HR HG HA1;obtain ⟨e0,e1,e2,e3,e4,e5⟩:=HPW.o.cells;have r0:W.cell? ⟨A+1,0,none⟩=some (.int .i64 0):=by rw [cOH HRW.o];rfl
 have r1:W.cell? ⟨A+1,1,none⟩=some (.int .i64 0):=by rw [cOH HRW.o];rfl
 have r2:W.cell? ⟨A+1,2,none⟩=some (.int .i64 0):=by rw [cOH HRW.o];rfl
 have r3:W.cell? ⟨A+1,3,none⟩=some (.string ⟨#[]⟩):=by rw [cOH HRW.o];rfl
 have r4:W.cell? ⟨A+1,4,none⟩=some (.string ⟨#[]⟩):=by rw [cOH HRW.o];rfl
 have rf:∀o,W.frozen? ⟨A+1,o,none⟩=false:=fun o=>Lib.frozen_of_heap HRW.o o
 have c0:W.cell? ⟨C,0,none⟩=some (.int .i64 a):=by rw [cOH HCW.o];rfl
 have c1:W.cell? ⟨C,1,none⟩=some (.int .i64 b):=by rw [cOH HCW.o];rfl
 have c2:W.cell? ⟨C,2,none⟩=some (.int .i64 c):=by rw [cOH HCW.o];rfl
 have c3:W.cell? ⟨C,3,none⟩=some (.string P):=by rw [cOH HCW.o];rfl
 have c4:W.cell? ⟨C,4,none⟩=some (.string ⟨#[]⟩):=by rw [cOH HCW.o];rfl
 have cf:∀o,W.frozen? ⟨C,o,none⟩=false:=fun o=>Lib.frozen_of_heap HCW.o o
 have hcc:=HCA.o;have n1:¬ (A+1=C):=by omega
 have n2:¬ (C=A+1):=by omega
 have n3:¬ (A=C):=by omega
 have n4:¬ (C=A):=by omega
 clear hcc;go_wp2;have hcc:=HCA.o;have hrw:=HRW.o;refine bodyPost_ret (results_cell_row rfl _ _ (A+1) 89 #[.int .i64 a,.int .i64 b,.int .i64 c,.string ⟨#[48]⟩,.string ⟨#[]⟩] (0,0) _ rfl ?_ Tryz.underlying89 rfl (by kernel_rfl)) rfl ⟨rfl,by repeat (first | refine gb_set0 ?_ (by omega) | exact HGW.o)⟩;simp [World.setCell,Array.getElem?_modify,hrw,n2]
set_option maxRecDepth 100000 in
theorem rfirst1_any (a b c:Int) (P Q:ByteArray) (w:World) :
  Calls Tryz.prog 84 #[.agg #[.int .i64 1,.int .i64 a,.int .i64 b,.int .i64 c,.string P,.string Q]] w fun e w'=>e=.returned (.agg #[.int .i64 a,.int .i64 b,.int .i64 c,.string ⟨#[48]⟩,.string ⟨#[]⟩])/\w.grownBy w' none:=by
 have CP:Hd (∀w,Calls Tryz.prog 109 #[.agg #[.int .i64 a,.int .i64 b,.int .i64 c,.string P,.string Q]] w fun e w'=>e=.returned (.agg #[.int .i64 a,.int .i64 b,.int .i64 c,.string P,.string ⟨#[]⟩])/\w.grownBy w' none):=fun w=>plain_any a b c P Q w
 go_enter Tryz.func84,Tryz.ntmps84;go_wp2_with (first | (go_at_call 109;refine (CP.o _).mono ?_));rintro e w1 ⟨rfl,hg⟩;obtain ⟨A,hA⟩:=nm (w.heap.size);have HP:Hd (PR A 1 a b c P Q w1):=by
  refine PR.grow (w:=(w.alloc (.cells #[.int .i64 1,.int .i64 a,.int .i64 b,.int .i64 c,.string P,.string Q] 129)).alloc (.cells #[.int .i64 0,.int .i64 0,.int .i64 0,.string ⟨#[]⟩,.string ⟨#[]⟩] 89)) ?_ hg;unfold PR;rw [<-hA,Lib.alloc_old _ _ _ (by simp)];exact heap_alloc_new w _
 have HR:Hd (w1.heap[A+1]?=some (.cells #[.int .i64 0,.int .i64 0,.int .i64 0,.string ⟨#[]⟩,.string ⟨#[]⟩] 89 (0,0))):=by
  show _=_;have:=heap_alloc_new (w.alloc (.cells #[.int .i64 1,.int .i64 a,.int .i64 b,.int .i64 c,.string P,.string Q] 129)) (.cells #[.int .i64 0,.int .i64 0,.int .i64 0,.string ⟨#[]⟩,.string ⟨#[]⟩] 89);rw [hg.block (A+1) (by simp;omega) (by simp),<-hA];simpa using this
 have HG:Hd (w.grownBy w1 none):=gb_trans (gb_alloc (gb_alloc (gb_refl w none) _) _) hg;have HA1:Hd (w.heap.size<=A/\A+1 < w1.heap.size):=by
  refine ⟨by omega,?_⟩;have:=(hqL HR.o);omega
 try rw [hA]
 clear hA hg;obtain ⟨C,hC⟩:=nm (w1.heap.size);obtain ⟨W,hW⟩:=nm (w1.alloc (.cells #[.int .i64 a,.int .i64 b,.int .i64 c,.string P,.string ⟨#[]⟩] 89));have hgW:w1.grownBy W none:=by rw [<-hW];exact gb_alloc (gb_refl w1 none) _
 have HPW:Hd (PR A 1 a b c P Q W):=HP.o.grow hgW;have HRW:Hd (W.heap[A+1]?=some (.cells #[.int .i64 0,.int .i64 0,.int .i64 0,.string ⟨#[]⟩,.string ⟨#[]⟩] 89 (0,0))):=by show _=_;rw [hgW.block (A+1) HA1.o.2 (by simp)];exact HR.o
 have HCW:Hd (W.heap[C]?=some (.cells #[.int .i64 a,.int .i64 b,.int .i64 c,.string P,.string ⟨#[]⟩] 89 (0,0))):=by show _=_;rw [<-hW,<-hC];exact heap_alloc_new w1 _
 have HGW:Hd (w.grownBy W none):=gb_trans HG.o hgW;have HCA:Hd (w.heap.size<=A/\A+1 < C):=by show _/\_;rw [<-hC];exact HA1.o
 clear hgW HP HR HG HA1;obtain ⟨e0,e1,e2,e3,e4,e5⟩:=HPW.o.cells;have r0:W.cell? ⟨A+1,0,none⟩=some (.int .i64 0):=by rw [cOH HRW.o];rfl
 have r1:W.cell? ⟨A+1,1,none⟩=some (.int .i64 0):=by rw [cOH HRW.o];rfl
 have r2:W.cell? ⟨A+1,2,none⟩=some (.int .i64 0):=by rw [cOH HRW.o];rfl
 have r3:W.cell? ⟨A+1,3,none⟩=some (.string ⟨#[]⟩):=by rw [cOH HRW.o];rfl
 have r4:W.cell? ⟨A+1,4,none⟩=some (.string ⟨#[]⟩):=by rw [cOH HRW.o];rfl
 have rf:∀o,W.frozen? ⟨A+1,o,none⟩=false:=fun o=>Lib.frozen_of_heap HRW.o o
 have c0:W.cell? ⟨C,0,none⟩=some (.int .i64 a):=by rw [cOH HCW.o];rfl
 have c1:W.cell? ⟨C,1,none⟩=some (.int .i64 b):=by rw [cOH HCW.o];rfl
 have c2:W.cell? ⟨C,2,none⟩=some (.int .i64 c):=by rw [cOH HCW.o];rfl
 have c3:W.cell? ⟨C,3,none⟩=some (.string P):=by rw [cOH HCW.o];rfl
 have c4:W.cell? ⟨C,4,none⟩=some (.string ⟨#[]⟩):=by rw [cOH HCW.o];rfl
 have cf:∀o,W.frozen? ⟨C,o,none⟩=false:=fun o=>Lib.frozen_of_heap HCW.o o
 have hcc:=HCA.o;have n1:¬ (A+1=C):=by omega
 have n2:¬ (C=A+1):=by omega
 have n3:¬ (A=C):=by omega
 have n4:¬ (C=A):=by omega
 clear hcc;go_wp2;have hcc:=HCA.o;have hrw:=HRW.o;refine bodyPost_ret (results_cell_row rfl _ _ (A+1) 89 #[.int .i64 a,.int .i64 b,.int .i64 c,.string ⟨#[48]⟩,.string ⟨#[]⟩] (0,0) _ rfl ?_ Tryz.underlying89 rfl (by kernel_rfl)) rfl ⟨rfl,by repeat (first | refine gb_set0 ?_ (by omega) | exact HGW.o)⟩;simp [World.setCell,Array.getElem?_modify,hrw,n2]
set_option maxRecDepth 100000 in
theorem rfirst2_any (a b c:Int) (P Q:ByteArray) (w:World) :
  Calls Tryz.prog 84 #[.agg #[.int .i64 2,.int .i64 a,.int .i64 b,.int .i64 c,.string P,.string Q]] w fun e w'=>e=.returned (.agg #[.int .i64 a,.int .i64 b,.int .i64 c,.string ⟨#[48]⟩,.string ⟨#[]⟩])/\w.grownBy w' none:=by
 have CP:Hd (∀w,Calls Tryz.prog 109 #[.agg #[.int .i64 a,.int .i64 b,.int .i64 c,.string P,.string Q]] w fun e w'=>e=.returned (.agg #[.int .i64 a,.int .i64 b,.int .i64 c,.string P,.string ⟨#[]⟩])/\w.grownBy w' none):=fun w=>plain_any a b c P Q w
 go_enter Tryz.func84,Tryz.ntmps84;go_wp2_with (first | (go_at_call 109;refine (CP.o _).mono ?_));rintro e w1 ⟨rfl,hg⟩;obtain ⟨A,hA⟩:=nm (w.heap.size);have HP:Hd (PR A 2 a b c P Q w1):=by
  refine PR.grow (w:=(w.alloc (.cells #[.int .i64 2,.int .i64 a,.int .i64 b,.int .i64 c,.string P,.string Q] 129)).alloc (.cells #[.int .i64 0,.int .i64 0,.int .i64 0,.string ⟨#[]⟩,.string ⟨#[]⟩] 89)) ?_ hg;unfold PR;rw [<-hA,Lib.alloc_old _ _ _ (by simp)];exact heap_alloc_new w _
 have HR:Hd (w1.heap[A+1]?=some (.cells #[.int .i64 0,.int .i64 0,.int .i64 0,.string ⟨#[]⟩,.string ⟨#[]⟩] 89 (0,0))):=by
  show _=_;have:=heap_alloc_new (w.alloc (.cells #[.int .i64 2,.int .i64 a,.int .i64 b,.int .i64 c,.string P,.string Q] 129)) (.cells #[.int .i64 0,.int .i64 0,.int .i64 0,.string ⟨#[]⟩,.string ⟨#[]⟩] 89);rw [hg.block (A+1) (by simp;omega) (by simp),<-hA];simpa using this
 have HG:Hd (w.grownBy w1 none):=gb_trans (gb_alloc (gb_alloc (gb_refl w none) _) _) hg;have HA1:Hd (w.heap.size<=A/\A+1 < w1.heap.size):=by
  refine ⟨by omega,?_⟩;have:=(hqL HR.o);omega
 try rw [hA]
 clear hA hg;obtain ⟨C,hC⟩:=nm (w1.heap.size);obtain ⟨W,hW⟩:=nm (w1.alloc (.cells #[.int .i64 a,.int .i64 b,.int .i64 c,.string P,.string ⟨#[]⟩] 89));have hgW:w1.grownBy W none:=by rw [<-hW];exact gb_alloc (gb_refl w1 none) _
 have HPW:Hd (PR A 2 a b c P Q W):=HP.o.grow hgW;have HRW:Hd (W.heap[A+1]?=some (.cells #[.int .i64 0,.int .i64 0,.int .i64 0,.string ⟨#[]⟩,.string ⟨#[]⟩] 89 (0,0))):=by show _=_;rw [hgW.block (A+1) HA1.o.2 (by simp)];exact HR.o
 have HCW:Hd (W.heap[C]?=some (.cells #[.int .i64 a,.int .i64 b,.int .i64 c,.string P,.string ⟨#[]⟩] 89 (0,0))):=by show _=_;rw [<-hW,<-hC];exact heap_alloc_new w1 _
 have HGW:Hd (w.grownBy W none):=gb_trans HG.o hgW;have HCA:Hd (w.heap.size<=A/\A+1 < C):=by show _/\_;rw [<-hC];exact HA1.o
 clear hgW HP HR HG HA1;obtain ⟨e0,e1,e2,e3,e4,e5⟩:=HPW.o.cells;have r0:W.cell? ⟨A+1,0,none⟩=some (.int .i64 0):=by rw [cOH HRW.o];rfl
 have r1:W.cell? ⟨A+1,1,none⟩=some (.int .i64 0):=by rw [cOH HRW.o];rfl
 have r2:W.cell? ⟨A+1,2,none⟩=some (.int .i64 0):=by rw [cOH HRW.o];rfl
 have r3:W.cell? ⟨A+1,3,none⟩=some (.string ⟨#[]⟩):=by rw [cOH HRW.o];rfl
 have r4:W.cell? ⟨A+1,4,none⟩=some (.string ⟨#[]⟩):=by rw [cOH HRW.o];rfl
 have rf:∀o,W.frozen? ⟨A+1,o,none⟩=false:=fun o=>Lib.frozen_of_heap HRW.o o
 have c0:W.cell? ⟨C,0,none⟩=some (.int .i64 a):=by rw [cOH HCW.o];rfl
 have c1:W.cell? ⟨C,1,none⟩=some (.int .i64 b):=by rw [cOH HCW.o];rfl
 have c2:W.cell? ⟨C,2,none⟩=some (.int .i64 c):=by rw [cOH HCW.o];rfl
 have c3:W.cell? ⟨C,3,none⟩=some (.string P):=by rw [cOH HCW.o];rfl
 have c4:W.cell? ⟨C,4,none⟩=some (.string ⟨#[]⟩):=by rw [cOH HCW.o];rfl
 have cf:∀o,W.frozen? ⟨C,o,none⟩=false:=fun o=>Lib.frozen_of_heap HCW.o o
 have hcc:=HCA.o;have n1:¬ (A+1=C):=by omega
 have n2:¬ (C=A+1):=by omega
 have n3:¬ (A=C):=by omega
 have n4:¬ (C=A):=by omega
 clear hcc;go_wp2;have hcc:=HCA.o;have hrw:=HRW.o;refine bodyPost_ret (results_cell_row rfl _ _ (A+1) 89 #[.int .i64 a,.int .i64 b,.int .i64 c,.string ⟨#[48]⟩,.string ⟨#[]⟩] (0,0) _ rfl ?_ Tryz.underlying89 rfl (by kernel_rfl)) rfl ⟨rfl,by repeat (first | refine gb_set0 ?_ (by omega) | exact HGW.o)⟩;simp [World.setCell,Array.getElem?_modify,hrw,n2]
set_option maxRecDepth 100000 in
theorem rfirst3_any (a b c:Int) (P Q:ByteArray) (w:World) :
  Calls Tryz.prog 84 #[.agg #[.int .i64 3,.int .i64 a,.int .i64 b,.int .i64 c,.string P,.string Q]] w fun e w'=>e=.returned (.agg #[.int .i64 a,.int .i64 b,.int .i64 c,.string P,.string ⟨#[]⟩])/\w.grownBy w' none:=by
 have CP:Hd (∀w,Calls Tryz.prog 109 #[.agg #[.int .i64 a,.int .i64 b,.int .i64 c,.string P,.string Q]] w fun e w'=>e=.returned (.agg #[.int .i64 a,.int .i64 b,.int .i64 c,.string P,.string ⟨#[]⟩])/\w.grownBy w' none):=fun w=>plain_any a b c P Q w
 go_enter Tryz.func84,Tryz.ntmps84;go_wp2_with (first | (go_at_call 109;refine (CP.o _).mono ?_));rintro e w1 ⟨rfl,hg⟩;obtain ⟨A,hA⟩:=nm (w.heap.size);have HP:Hd (PR A 3 a b c P Q w1):=by
  refine PR.grow (w:=(w.alloc (.cells #[.int .i64 3,.int .i64 a,.int .i64 b,.int .i64 c,.string P,.string Q] 129)).alloc (.cells #[.int .i64 0,.int .i64 0,.int .i64 0,.string ⟨#[]⟩,.string ⟨#[]⟩] 89)) ?_ hg;unfold PR;rw [<-hA,Lib.alloc_old _ _ _ (by simp)];exact heap_alloc_new w _
 have HR:Hd (w1.heap[A+1]?=some (.cells #[.int .i64 0,.int .i64 0,.int .i64 0,.string ⟨#[]⟩,.string ⟨#[]⟩] 89 (0,0))):=by
  show _=_;have:=heap_alloc_new (w.alloc (.cells #[.int .i64 3,.int .i64 a,.int .i64 b,.int .i64 c,.string P,.string Q] 129)) (.cells #[.int .i64 0,.int .i64 0,.int .i64 0,.string ⟨#[]⟩,.string ⟨#[]⟩] 89);rw [hg.block (A+1) (by simp;omega) (by simp),<-hA];simpa using this
 have HG:Hd (w.grownBy w1 none):=gb_trans (gb_alloc (gb_alloc (gb_refl w none) _) _) hg;have HA1:Hd (w.heap.size<=A/\A+1 < w1.heap.size):=by
  refine ⟨by omega,?_⟩;have:=(hqL HR.o);omega
 try rw [hA]
 clear hA hg;obtain ⟨C,hC⟩:=nm (w1.heap.size);obtain ⟨W,hW⟩:=nm (w1.alloc (.cells #[.int .i64 a,.int .i64 b,.int .i64 c,.string P,.string ⟨#[]⟩] 89));have hgW:w1.grownBy W none:=by rw [<-hW];exact gb_alloc (gb_refl w1 none) _
 have HPW:Hd (PR A 3 a b c P Q W):=HP.o.grow hgW;have HRW:Hd (W.heap[A+1]?=some (.cells #[.int .i64 0,.int .i64 0,.int .i64 0,.string ⟨#[]⟩,.string ⟨#[]⟩] 89 (0,0))):=by show _=_;rw [hgW.block (A+1) HA1.o.2 (by simp)];exact HR.o
 have HCW:Hd (W.heap[C]?=some (.cells #[.int .i64 a,.int .i64 b,.int .i64 c,.string P,.string ⟨#[]⟩] 89 (0,0))):=by show _=_;rw [<-hW,<-hC];exact heap_alloc_new w1 _
 have HGW:Hd (w.grownBy W none):=gb_trans HG.o hgW;have HCA:Hd (w.heap.size<=A/\A+1 < C):=by show _/\_;rw [<-hC];exact HA1.o
 clear hgW HP HR HG HA1;obtain ⟨e0,e1,e2,e3,e4,e5⟩:=HPW.o.cells;have r0:W.cell? ⟨A+1,0,none⟩=some (.int .i64 0):=by rw [cOH HRW.o];rfl
 have r1:W.cell? ⟨A+1,1,none⟩=some (.int .i64 0):=by rw [cOH HRW.o];rfl
 have r2:W.cell? ⟨A+1,2,none⟩=some (.int .i64 0):=by rw [cOH HRW.o];rfl
 have r3:W.cell? ⟨A+1,3,none⟩=some (.string ⟨#[]⟩):=by rw [cOH HRW.o];rfl
 have r4:W.cell? ⟨A+1,4,none⟩=some (.string ⟨#[]⟩):=by rw [cOH HRW.o];rfl
 have rf:∀o,W.frozen? ⟨A+1,o,none⟩=false:=fun o=>Lib.frozen_of_heap HRW.o o
 have c0:W.cell? ⟨C,0,none⟩=some (.int .i64 a):=by rw [cOH HCW.o];rfl
 have c1:W.cell? ⟨C,1,none⟩=some (.int .i64 b):=by rw [cOH HCW.o];rfl
 have c2:W.cell? ⟨C,2,none⟩=some (.int .i64 c):=by rw [cOH HCW.o];rfl
 have c3:W.cell? ⟨C,3,none⟩=some (.string P):=by rw [cOH HCW.o];rfl
 have c4:W.cell? ⟨C,4,none⟩=some (.string ⟨#[]⟩):=by rw [cOH HCW.o];rfl
 have cf:∀o,W.frozen? ⟨C,o,none⟩=false:=fun o=>Lib.frozen_of_heap HCW.o o
 have hcc:=HCA.o;have n1:¬ (A+1=C):=by omega
 have n2:¬ (C=A+1):=by omega
 have n3:¬ (A=C):=by omega
 have n4:¬ (C=A):=by omega
 clear hcc;go_wp2;have hcc:=HCA.o;have hrw:=HRW.o;refine bodyPost_ret (results_cell_row rfl _ _ (A+1) 89 #[.int .i64 a,.int .i64 b,.int .i64 c,.string P,.string ⟨#[]⟩] (0,0) _ rfl ?_ Tryz.underlying89 rfl (by kernel_rfl)) rfl ⟨rfl,by repeat (first | refine gb_set0 ?_ (by omega) | exact HGW.o)⟩;simp [World.setCell,Array.getElem?_modify,hrw,n2]
end Go.Proofs.YticgahdffjnabaaGreatDoor
