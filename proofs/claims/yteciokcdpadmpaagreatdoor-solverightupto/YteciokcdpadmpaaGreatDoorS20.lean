import Derived.Test.YteciokcdpadmpaaGreatDoorS14
import Derived.Test.YteciokcdpadmpaaGreatDoorS13
set_option linter.all false
set_option maxRecDepth 100000
set_option maxHeartbeats 0
open Go.Proofs.Tryz
namespace Go.Proofs.YteciokcdpadmpaaGreatDoor
open Go.RowKit
def PR(A:Nat)(n a b c:Int)(P Q:ByteArray)(w:World):Prop:=w.heap[A]?=some (.cells #[.int .i64 n,.int .i64 a,.int .i64 b,.int .i64 c,.string P,.string Q] 166 (0,0))
theorem PR.cells{A:Nat}{n a b c:Int}{P Q:ByteArray}{w:World}(h:PR A n a b c P Q w):w.cell? ⟨A,0,none⟩=some (.int .i64 n)/\w.cell? ⟨A,1,none⟩=some (.int .i64 a)/\w.cell? ⟨A,2,none⟩=some (.int .i64 b)/\w.cell? ⟨A,3,none⟩=some (.int .i64 c)/\w.cell? ⟨A,4,none⟩=some (.string P)/\w.cell? ⟨A,5,none⟩=some (.string Q) :=
 ⟨by rw[ah h];rfl,by rw[ah h];rfl,by rw[ah h];rfl,by rw[ah h];rfl,by rw[ah h];rfl,by rw[ah h];rfl⟩
theorem FZ{w x:World}{B:Nat}(h:w.grownBy x none)(hB:w.heap.size<=B){o:Nat}{v:Value}:w.grownBy (x.setCell ⟨B,o,none⟩ v) none:=by
 refine⟨h.os,h.tape,h.output,by simpa [World.setCell] using h.size,fun k hk hn=>?_⟩;rw[<-h.block k hk hn];exact heap_setCell_other x _ k v (by simp;omega)
theorem PR.grow{A:Nat}{n a b c:Int}{P Q:ByteArray}{w w':World}(h:PR A n a b c P Q w)(hg:w.grownBy w' none):PR A n a b c P Q w':=by
 unfold PR at h ⊢;rw[hg.block A ((aB h)) (by simp)];exact h
theorem Rl(a b c v1 v2 v3:Int)(P Q v4 v5:ByteArray)(w:World) :
  Calls prog 125 #[.agg #[.int .i64 0,.int .i64 a,.int .i64 b,.int .i64 c,.string P,.string Q],.agg #[.int .i64 v1,.int .i64 v2,.int .i64 v3,.string v4,.string v5]] w fun e w'=>e=.returned (.bool (iC ⟨0,a,b,c,P.data.toList⟩ ⟨v1,v2,v3,v4.data.toList⟩))/\w.grownBy w' none:=by
 go_enter func125,ntmps125;go_wp2
 all_goals go_ret
 all_goals (refine⟨aJ ?_,aj (aj (ak w none) _) _⟩;simp_all [iC]<;>rfl)
theorem Rn(a b c v1 v2 v3:Int)(P Q v4 v5:ByteArray)(w:World) :
  Calls prog 125 #[.agg #[.int .i64 1,.int .i64 a,.int .i64 b,.int .i64 c,.string P,.string Q],.agg #[.int .i64 v1,.int .i64 v2,.int .i64 v3,.string v4,.string v5]] w fun e w'=>e=.returned (.bool (iC ⟨1,a,b,c,P.data.toList⟩ ⟨v1,v2,v3,v4.data.toList⟩))/\w.grownBy w' none:=by
 go_enter func125,ntmps125;go_wp2
 all_goals go_ret
 all_goals (refine⟨aJ ?_,aj (aj (ak w none) _) _⟩;simp_all [iC]<;>rfl)
theorem Rq(a b c v1 v2 v3:Int)(P Q v4 v5:ByteArray)(w:World) :
  Calls prog 125 #[.agg #[.int .i64 2,.int .i64 a,.int .i64 b,.int .i64 c,.string P,.string Q],.agg #[.int .i64 v1,.int .i64 v2,.int .i64 v3,.string v4,.string v5]] w fun e w'=>e=.returned (.bool (iC ⟨2,a,b,c,P.data.toList⟩ ⟨v1,v2,v3,v4.data.toList⟩))/\w.grownBy w' none:=by
 go_enter func125,ntmps125;go_wp2
 all_goals go_ret
 all_goals (refine⟨aJ ?_,aj (aj (ak w none) _) _⟩;simp_all [iC]<;>rfl)
theorem Rt(a b c v1 v2 v3:Int)(P Q v4 v5:ByteArray)(w:World)(hp:P.size<=1048576)(hv:v4.size<=1048576) :
  Calls prog 125 #[.agg #[.int .i64 3,.int .i64 a,.int .i64 b,.int .i64 c,.string P,.string Q],.agg #[.int .i64 v1,.int .i64 v2,.int .i64 v3,.string v4,.string v5]] w fun e w'=>e=.returned (.bool (iC ⟨3,a,b,c,P.data.toList⟩ ⟨v1,v2,v3,v4.data.toList⟩))/\w.grownBy w' none:=by
 obtain⟨x,hx⟩:=zN (aC ⟨a,b,c,P.data.toList⟩ ⟨v1,v2,v3,v4.data.toList⟩);have HR:Hd (iC ⟨3,a,b,c,P.data.toList⟩ ⟨v1,v2,v3,v4.data.toList⟩=decide (x=0)):=by show _=_;rw[<-hx];rfl
 have CC:Hd (∀w,Calls prog 44 #[.agg #[.int .i64 a,.int .i64 b,.int .i64 c,.string P,.string Q],.agg #[.int .i64 v1,.int .i64 v2,.int .i64 v3,.string v4,.string v5]] w fun e w'=>e=.returned (.int .i64 x)/\w.grownBy w' none):=fun w=>by
  rw[<-hx];refine(qY a b c v1 v2 v3 P Q v4 v5 w hp hv).mono ?_;rintro e w' ⟨rfl,h⟩;exact⟨rfl,pW h⟩
 obtain⟨R,hR⟩:=zN (iC ⟨3,a,b,c,P.data.toList⟩ ⟨v1,v2,v3,v4.data.toList⟩);rw[hR]at HR ⊢;clear hx hp hv hR;go_enter func125,ntmps125;go_wp2_with (go_at_call 44;refine(CC.o _).mono ?_);rintro e w1 ⟨rfl,hg⟩;have HG:=ae (ag (aj (aj (ak w none) _) _) hg);clear hg;go_wp2;go_ret;exact⟨aJ (by rw[HR.o];rfl),HG.o⟩
theorem aaR(a b c v1 v2 v3:Int)(P Q v4 v5:ByteArray)(w:World)(hp:P.size<=1048576)(hv:v4.size<=1048576) :
  Calls prog 124 #[.agg #[.int .i64 0,.int .i64 a,.int .i64 b,.int .i64 c,.string P,.string Q],.agg #[.int .i64 v1,.int .i64 v2,.int .i64 v3,.string v4,.string v5]] w fun e w'=>e=.returned (.int .i64 (eQ ⟨0,a,b,c,P.data.toList⟩ ⟨v1,v2,v3,v4.data.toList⟩))/\w.grownBy w' none:=by
 obtain⟨N,hN⟩:=zN (iC ⟨0,a,b,c,P.data.toList⟩ ⟨v1,v2,v3,v4.data.toList⟩);obtain⟨x,hx⟩:=zN (aC ⟨v1,v2,v3,v4.data.toList⟩ (uk ⟨0,a,b,c,P.data.toList⟩));have HR:Hd (eQ ⟨0,a,b,c,P.data.toList⟩ ⟨v1,v2,v3,v4.data.toList⟩=if(N || decide (0=0))=true then 0 else x):=by show _=_;unfold eQ;rw[hN,hx]
 have CN:Hd (∀w,Calls prog 125 #[.agg #[.int .i64 0,.int .i64 a,.int .i64 b,.int .i64 c,.string P,.string Q],.agg #[.int .i64 v1,.int .i64 v2,.int .i64 v3,.string v4,.string v5]] w fun e w'=>e=.returned (.bool N)/\w.grownBy w' none):=fun w=>by rw[<-hN];exact Rl a b c v1 v2 v3 P Q v4 v5 w
 have CC:Hd (∀w,Calls prog 44 #[.agg #[.int .i64 v1,.int .i64 v2,.int .i64 v3,.string v4,.string v5],.agg #[.int .i64 a,.int .i64 b,.int .i64 c,.string P,.string Q]] w fun e w'=>e=.returned (.int .i64 x)/\w.grownBy w' none):=fun w=>by
  rw[<-hx];refine(qY v1 v2 v3 a b c v4 v5 P Q w hv hp).mono ?_;rintro e w' ⟨rfl,h⟩;exact⟨rfl,pW h⟩
 obtain⟨R,hR⟩:=zN (eQ ⟨0,a,b,c,P.data.toList⟩ ⟨v1,v2,v3,v4.data.toList⟩);rw[hR]at HR ⊢;have dH:Hd (N=true):=by show N=true;rw[<-hN];rfl
 clear hN hx hp hv hR
 cases N with
 | true =>
  go_enter func124,ntmps124;go_wp2_with (go_at_call 125;refine(CN.o _).mono ?_);rintro e w1 rfl hg;obtain⟨A,hA⟩:=zN (w.heap.size);have HP:Hd (PR A 0 a b c P Q w1):=by
   refine PR.grow (w:=(w.alloc (.cells #[.int .i64 0,.int .i64 a,.int .i64 b,.int .i64 c,.string P,.string Q] 166)).alloc (.cells #[.int .i64 v1,.int .i64 v2,.int .i64 v3,.string v4,.string v5] 98)) ?_ hg;unfold PR;rw[<-hA,Lib.alloc_old _ _ _ (by simp)];exact heap_alloc_new w _
  have HV:Hd (St (A+1) v1 v2 v3 v4 v5 w1):=by
   refine St.grow ?_ hg;refine l9 (t:=98) ?_;have:=heap_alloc_new (w.alloc (.cells #[.int .i64 0,.int .i64 a,.int .i64 b,.int .i64 c,.string P,.string Q] 166)) (.cells #[.int .i64 v1,.int .i64 v2,.int .i64 v3,.string v4,.string v5] 98);rw[<-hA];simpa using this
  have HG:=ae (ag (aj (aj (ak w none) _) _) hg)
  try rw[hA]
  clear hA hg;obtain⟨e0,e1,e2,e3,e4,e5⟩:=HP.o.cells;obtain⟨s1,s2,s3,s4,s5⟩:=HV.o;go_wp2;go_ret;exact⟨bM (by rw[HR.o];rfl),HG.o⟩
 | false=>exact absurd dH.o (by decide)
theorem aaS(a b c v1 v2 v3:Int)(P Q v4 v5:ByteArray)(w:World)(hp:P.size<=1048576)(hv:v4.size<=1048576) :
  Calls prog 124 #[.agg #[.int .i64 1,.int .i64 a,.int .i64 b,.int .i64 c,.string P,.string Q],.agg #[.int .i64 v1,.int .i64 v2,.int .i64 v3,.string v4,.string v5]] w fun e w'=>e=.returned (.int .i64 (eQ ⟨1,a,b,c,P.data.toList⟩ ⟨v1,v2,v3,v4.data.toList⟩))/\w.grownBy w' none:=by
 obtain⟨N,hN⟩:=zN (iC ⟨1,a,b,c,P.data.toList⟩ ⟨v1,v2,v3,v4.data.toList⟩);obtain⟨x,hx⟩:=zN (aC ⟨v1,v2,v3,v4.data.toList⟩ (uk ⟨1,a,b,c,P.data.toList⟩));have HR:Hd (eQ ⟨1,a,b,c,P.data.toList⟩ ⟨v1,v2,v3,v4.data.toList⟩=if(N || decide (1=0))=true then 0 else x):=by show _=_;unfold eQ;rw[hN,hx]
 have CN:Hd (∀w,Calls prog 125 #[.agg #[.int .i64 1,.int .i64 a,.int .i64 b,.int .i64 c,.string P,.string Q],.agg #[.int .i64 v1,.int .i64 v2,.int .i64 v3,.string v4,.string v5]] w fun e w'=>e=.returned (.bool N)/\w.grownBy w' none):=fun w=>by rw[<-hN];exact Rn a b c v1 v2 v3 P Q v4 v5 w
 have CC:Hd (∀w,Calls prog 44 #[.agg #[.int .i64 v1,.int .i64 v2,.int .i64 v3,.string v4,.string v5],.agg #[.int .i64 a,.int .i64 b,.int .i64 c,.string P,.string Q]] w fun e w'=>e=.returned (.int .i64 x)/\w.grownBy w' none):=fun w=>by
  rw[<-hx];refine(qY v1 v2 v3 a b c v4 v5 P Q w hv hp).mono ?_;rintro e w' ⟨rfl,h⟩;exact⟨rfl,pW h⟩
 obtain⟨R,hR⟩:=zN (eQ ⟨1,a,b,c,P.data.toList⟩ ⟨v1,v2,v3,v4.data.toList⟩);rw[hR]at HR ⊢;clear hN hx hp hv hR
 cases N with
 | true =>
  go_enter func124,ntmps124;go_wp2_with (go_at_call 125;refine(CN.o _).mono ?_);rintro e w1 ⟨rfl,hg⟩;obtain⟨A,hA⟩:=zN (w.heap.size);have HP:Hd (PR A 1 a b c P Q w1):=by
   refine PR.grow (w:=(w.alloc (.cells #[.int .i64 1,.int .i64 a,.int .i64 b,.int .i64 c,.string P,.string Q] 166)).alloc (.cells #[.int .i64 v1,.int .i64 v2,.int .i64 v3,.string v4,.string v5] 98)) ?_ hg;unfold PR;rw[<-hA,Lib.alloc_old _ _ _ (by simp)];exact heap_alloc_new w _
  have HV:Hd (St (A+1) v1 v2 v3 v4 v5 w1):=by
   refine St.grow ?_ hg;refine l9 (t:=98) ?_;have:=heap_alloc_new (w.alloc (.cells #[.int .i64 1,.int .i64 a,.int .i64 b,.int .i64 c,.string P,.string Q] 166)) (.cells #[.int .i64 v1,.int .i64 v2,.int .i64 v3,.string v4,.string v5] 98);rw[<-hA];simpa using this
  have HG:=ae (ag (aj (aj (ak w none) _) _) hg)
  try rw[hA]
  clear hA hg;obtain⟨e0,e1,e2,e3,e4,e5⟩:=HP.o.cells;obtain⟨s1,s2,s3,s4,s5⟩:=HV.o;go_wp2;go_ret;exact⟨bM (by rw[HR.o];rfl),HG.o⟩
 | false =>
  go_enter func124,ntmps124;go_wp2_with (go_at_call 125;refine(CN.o _).mono ?_);rintro e w1 ⟨rfl,hg⟩;obtain⟨A,hA⟩:=zN (w.heap.size);have HP:Hd (PR A 1 a b c P Q w1):=by
   refine PR.grow (w:=(w.alloc (.cells #[.int .i64 1,.int .i64 a,.int .i64 b,.int .i64 c,.string P,.string Q] 166)).alloc (.cells #[.int .i64 v1,.int .i64 v2,.int .i64 v3,.string v4,.string v5] 98)) ?_ hg;unfold PR;rw[<-hA,Lib.alloc_old _ _ _ (by simp)];exact heap_alloc_new w _
  have HV:Hd (St (A+1) v1 v2 v3 v4 v5 w1):=by
   refine St.grow ?_ hg;refine l9 (t:=98) ?_;have:=heap_alloc_new (w.alloc (.cells #[.int .i64 1,.int .i64 a,.int .i64 b,.int .i64 c,.string P,.string Q] 166)) (.cells #[.int .i64 v1,.int .i64 v2,.int .i64 v3,.string v4,.string v5] 98);rw[<-hA];simpa using this
  have HG:=ae (ag (aj (aj (ak w none) _) _) hg)
  try rw[hA]
  clear hA hg;obtain⟨e0,e1,e2,e3,e4,e5⟩:=HP.o.cells;obtain⟨s1,s2,s3,s4,s5⟩:=HV.o;go_wp2_with (go_at_call 44;refine(CC.o _).mono ?_;rintro e w2 ⟨rfl,hg2⟩);go_ret;exact⟨bM (by rw[HR.o];rfl),ag HG.o hg2⟩
theorem aaT(a b c v1 v2 v3:Int)(P Q v4 v5:ByteArray)(w:World)(hp:P.size<=1048576)(hv:v4.size<=1048576) :
  Calls prog 124 #[.agg #[.int .i64 2,.int .i64 a,.int .i64 b,.int .i64 c,.string P,.string Q],.agg #[.int .i64 v1,.int .i64 v2,.int .i64 v3,.string v4,.string v5]] w fun e w'=>e=.returned (.int .i64 (eQ ⟨2,a,b,c,P.data.toList⟩ ⟨v1,v2,v3,v4.data.toList⟩))/\w.grownBy w' none:=by
 obtain⟨N,hN⟩:=zN (iC ⟨2,a,b,c,P.data.toList⟩ ⟨v1,v2,v3,v4.data.toList⟩);obtain⟨x,hx⟩:=zN (aC ⟨v1,v2,v3,v4.data.toList⟩ (uk ⟨2,a,b,c,P.data.toList⟩));have HR:Hd (eQ ⟨2,a,b,c,P.data.toList⟩ ⟨v1,v2,v3,v4.data.toList⟩=if(N || decide (2=0))=true then 0 else x):=by show _=_;unfold eQ;rw[hN,hx]
 have CN:Hd (∀w,Calls prog 125 #[.agg #[.int .i64 2,.int .i64 a,.int .i64 b,.int .i64 c,.string P,.string Q],.agg #[.int .i64 v1,.int .i64 v2,.int .i64 v3,.string v4,.string v5]] w fun e w'=>e=.returned (.bool N)/\w.grownBy w' none):=fun w=>by rw[<-hN];exact Rq a b c v1 v2 v3 P Q v4 v5 w
 have CC:Hd (∀w,Calls prog 44 #[.agg #[.int .i64 v1,.int .i64 v2,.int .i64 v3,.string v4,.string v5],.agg #[.int .i64 a,.int .i64 b,.int .i64 c,.string P,.string Q]] w fun e w'=>e=.returned (.int .i64 x)/\w.grownBy w' none):=fun w=>by
  rw[<-hx];refine(qY v1 v2 v3 a b c v4 v5 P Q w hv hp).mono ?_;rintro e w' ⟨rfl,h⟩;exact⟨rfl,pW h⟩
 obtain⟨R,hR⟩:=zN (eQ ⟨2,a,b,c,P.data.toList⟩ ⟨v1,v2,v3,v4.data.toList⟩);rw[hR]at HR ⊢;clear hN hx hp hv hR
 cases N with
 | true =>
  go_enter func124,ntmps124;go_wp2_with (go_at_call 125;refine(CN.o _).mono ?_);rintro e w1 ⟨rfl,hg⟩;obtain⟨A,hA⟩:=zN (w.heap.size);have HP:Hd (PR A 2 a b c P Q w1):=by
   refine PR.grow (w:=(w.alloc (.cells #[.int .i64 2,.int .i64 a,.int .i64 b,.int .i64 c,.string P,.string Q] 166)).alloc (.cells #[.int .i64 v1,.int .i64 v2,.int .i64 v3,.string v4,.string v5] 98)) ?_ hg;unfold PR;rw[<-hA,Lib.alloc_old _ _ _ (by simp)];exact heap_alloc_new w _
  have HV:Hd (St (A+1) v1 v2 v3 v4 v5 w1):=by
   refine St.grow ?_ hg;refine l9 (t:=98) ?_;have:=heap_alloc_new (w.alloc (.cells #[.int .i64 2,.int .i64 a,.int .i64 b,.int .i64 c,.string P,.string Q] 166)) (.cells #[.int .i64 v1,.int .i64 v2,.int .i64 v3,.string v4,.string v5] 98);rw[<-hA];simpa using this
  have HG:=ae (ag (aj (aj (ak w none) _) _) hg)
  try rw[hA]
  clear hA hg;obtain⟨e0,e1,e2,e3,e4,e5⟩:=HP.o.cells;obtain⟨s1,s2,s3,s4,s5⟩:=HV.o;go_wp2;go_ret;exact⟨bM (by rw[HR.o];rfl),HG.o⟩
 | false =>
  go_enter func124,ntmps124;go_wp2_with (go_at_call 125;refine(CN.o _).mono ?_);rintro e w1 ⟨rfl,hg⟩;obtain⟨A,hA⟩:=zN (w.heap.size);have HP:Hd (PR A 2 a b c P Q w1):=by
   refine PR.grow (w:=(w.alloc (.cells #[.int .i64 2,.int .i64 a,.int .i64 b,.int .i64 c,.string P,.string Q] 166)).alloc (.cells #[.int .i64 v1,.int .i64 v2,.int .i64 v3,.string v4,.string v5] 98)) ?_ hg;unfold PR;rw[<-hA,Lib.alloc_old _ _ _ (by simp)];exact heap_alloc_new w _
  have HV:Hd (St (A+1) v1 v2 v3 v4 v5 w1):=by
   refine St.grow ?_ hg;refine l9 (t:=98) ?_;have:=heap_alloc_new (w.alloc (.cells #[.int .i64 2,.int .i64 a,.int .i64 b,.int .i64 c,.string P,.string Q] 166)) (.cells #[.int .i64 v1,.int .i64 v2,.int .i64 v3,.string v4,.string v5] 98);rw[<-hA];simpa using this
  have HG:=ae (ag (aj (aj (ak w none) _) _) hg)
  try rw[hA]
  clear hA hg;obtain⟨e0,e1,e2,e3,e4,e5⟩:=HP.o.cells;obtain⟨s1,s2,s3,s4,s5⟩:=HV.o;go_wp2_with (go_at_call 44;refine(CC.o _).mono ?_;rintro e w2 ⟨rfl,hg2⟩);go_ret;exact⟨bM (by rw[HR.o];rfl),ag HG.o hg2⟩
theorem aaU(a b c v1 v2 v3:Int)(P Q v4 v5:ByteArray)(w:World)(hp:P.size<=1048576)(hv:v4.size<=1048576) :
  Calls prog 124 #[.agg #[.int .i64 3,.int .i64 a,.int .i64 b,.int .i64 c,.string P,.string Q],.agg #[.int .i64 v1,.int .i64 v2,.int .i64 v3,.string v4,.string v5]] w fun e w'=>e=.returned (.int .i64 (eQ ⟨3,a,b,c,P.data.toList⟩ ⟨v1,v2,v3,v4.data.toList⟩))/\w.grownBy w' none:=by
 obtain⟨N,hN⟩:=zN (iC ⟨3,a,b,c,P.data.toList⟩ ⟨v1,v2,v3,v4.data.toList⟩);obtain⟨x,hx⟩:=zN (aC ⟨v1,v2,v3,v4.data.toList⟩ (uk ⟨3,a,b,c,P.data.toList⟩));have HR:Hd (eQ ⟨3,a,b,c,P.data.toList⟩ ⟨v1,v2,v3,v4.data.toList⟩=if(N || decide (3=0))=true then 0 else x):=by show _=_;unfold eQ;rw[hN,hx]
 have CN:Hd (∀w,Calls prog 125 #[.agg #[.int .i64 3,.int .i64 a,.int .i64 b,.int .i64 c,.string P,.string Q],.agg #[.int .i64 v1,.int .i64 v2,.int .i64 v3,.string v4,.string v5]] w fun e w'=>e=.returned (.bool N)/\w.grownBy w' none):=fun w=>by rw[<-hN];exact Rt a b c v1 v2 v3 P Q v4 v5 w hp hv
 have CC:Hd (∀w,Calls prog 44 #[.agg #[.int .i64 v1,.int .i64 v2,.int .i64 v3,.string v4,.string v5],.agg #[.int .i64 a,.int .i64 b,.int .i64 c,.string P,.string Q]] w fun e w'=>e=.returned (.int .i64 x)/\w.grownBy w' none):=fun w=>by
  rw[<-hx];refine(qY v1 v2 v3 a b c v4 v5 P Q w hv hp).mono ?_;rintro e w' ⟨rfl,h⟩;exact⟨rfl,pW h⟩
 obtain⟨R,hR⟩:=zN (eQ ⟨3,a,b,c,P.data.toList⟩ ⟨v1,v2,v3,v4.data.toList⟩);rw[hR]at HR ⊢;clear hN hx hp hv hR
 cases N with
 | true =>
  go_enter func124,ntmps124;go_wp2_with (go_at_call 125;refine(CN.o _).mono ?_);rintro e w1 ⟨rfl,hg⟩;obtain⟨A,hA⟩:=zN (w.heap.size);have HP:Hd (PR A 3 a b c P Q w1):=by
   refine PR.grow (w:=(w.alloc (.cells #[.int .i64 3,.int .i64 a,.int .i64 b,.int .i64 c,.string P,.string Q] 166)).alloc (.cells #[.int .i64 v1,.int .i64 v2,.int .i64 v3,.string v4,.string v5] 98)) ?_ hg;unfold PR;rw[<-hA,Lib.alloc_old _ _ _ (by simp)];exact heap_alloc_new w _
  have HV:Hd (St (A+1) v1 v2 v3 v4 v5 w1):=by
   refine St.grow ?_ hg;refine l9 (t:=98) ?_;have:=heap_alloc_new (w.alloc (.cells #[.int .i64 3,.int .i64 a,.int .i64 b,.int .i64 c,.string P,.string Q] 166)) (.cells #[.int .i64 v1,.int .i64 v2,.int .i64 v3,.string v4,.string v5] 98);rw[<-hA];simpa using this
  have HG:=ae (ag (aj (aj (ak w none) _) _) hg)
  try rw[hA]
  clear hA hg;obtain⟨e0,e1,e2,e3,e4,e5⟩:=HP.o.cells;obtain⟨s1,s2,s3,s4,s5⟩:=HV.o;go_wp2;go_ret;exact⟨bM (by rw[HR.o];rfl),HG.o⟩
 | false =>
  go_enter func124,ntmps124;go_wp2_with (go_at_call 125;refine(CN.o _).mono ?_);rintro e w1 ⟨rfl,hg⟩;obtain⟨A,hA⟩:=zN (w.heap.size);have HP:Hd (PR A 3 a b c P Q w1):=by
   refine PR.grow (w:=(w.alloc (.cells #[.int .i64 3,.int .i64 a,.int .i64 b,.int .i64 c,.string P,.string Q] 166)).alloc (.cells #[.int .i64 v1,.int .i64 v2,.int .i64 v3,.string v4,.string v5] 98)) ?_ hg;unfold PR;rw[<-hA,Lib.alloc_old _ _ _ (by simp)];exact heap_alloc_new w _
  have HV:Hd (St (A+1) v1 v2 v3 v4 v5 w1):=by
   refine St.grow ?_ hg;refine l9 (t:=98) ?_;have:=heap_alloc_new (w.alloc (.cells #[.int .i64 3,.int .i64 a,.int .i64 b,.int .i64 c,.string P,.string Q] 166)) (.cells #[.int .i64 v1,.int .i64 v2,.int .i64 v3,.string v4,.string v5] 98);rw[<-hA];simpa using this
  have HG:=ae (ag (aj (aj (ak w none) _) _) hg)
  try rw[hA]
  clear hA hg;obtain⟨e0,e1,e2,e3,e4,e5⟩:=HP.o.cells;obtain⟨s1,s2,s3,s4,s5⟩:=HV.o;go_wp2_with (go_at_call 44;refine(CC.o _).mono ?_;rintro e w2 ⟨rfl,hg2⟩);go_ret;exact⟨bM (by rw[HR.o];rfl),ag HG.o hg2⟩
theorem aaV(a b c v1 v2 v3:Int)(P Q v4 v5:ByteArray)(w:World) :
  Calls prog 127 #[.agg #[.int .i64 0,.int .i64 a,.int .i64 b,.int .i64 c,.string P,.string Q],.agg #[.int .i64 v1,.int .i64 v2,.int .i64 v3,.string v4,.string v5]] w fun e w'=>e=.returned (.bool (mJ ⟨0,a,b,c,P.data.toList⟩ ⟨v1,v2,v3,v4.data.toList⟩))/\w.grownBy w' none:=by
 go_enter func127,ntmps127;go_wp2
 all_goals go_ret
 all_goals (refine⟨aJ ?_,aj (aj (ak w none) _) _⟩;simp_all [mJ]<;>first|omega|rfl|(rw[Bool.eq_iff_iff];simp;omega))
theorem aaW(a b c v1 v2 v3:Int)(P Q v4 v5:ByteArray)(w:World) :
  Calls prog 127 #[.agg #[.int .i64 1,.int .i64 a,.int .i64 b,.int .i64 c,.string P,.string Q],.agg #[.int .i64 v1,.int .i64 v2,.int .i64 v3,.string v4,.string v5]] w fun e w'=>e=.returned (.bool (mJ ⟨1,a,b,c,P.data.toList⟩ ⟨v1,v2,v3,v4.data.toList⟩))/\w.grownBy w' none:=by
 go_enter func127,ntmps127;go_wp2
 all_goals go_ret
 all_goals (refine⟨aJ ?_,aj (aj (ak w none) _) _⟩;simp_all [mJ]<;>first|omega|rfl|(rw[Bool.eq_iff_iff];simp;omega))
theorem aaX(a b c v1 v2 v3:Int)(P Q v4 v5:ByteArray)(w:World) :
  Calls prog 127 #[.agg #[.int .i64 2,.int .i64 a,.int .i64 b,.int .i64 c,.string P,.string Q],.agg #[.int .i64 v1,.int .i64 v2,.int .i64 v3,.string v4,.string v5]] w fun e w'=>e=.returned (.bool (mJ ⟨2,a,b,c,P.data.toList⟩ ⟨v1,v2,v3,v4.data.toList⟩))/\w.grownBy w' none:=by
 go_enter func127,ntmps127;go_wp2
 all_goals go_ret
 all_goals (refine⟨aJ ?_,aj (aj (ak w none) _) _⟩;simp_all [mJ]<;>first|omega|rfl|(rw[Bool.eq_iff_iff];simp;omega))
theorem aaY(a b c v1 v2 v3:Int)(P Q v4 v5:ByteArray)(w:World) :
  Calls prog 127 #[.agg #[.int .i64 3,.int .i64 a,.int .i64 b,.int .i64 c,.string P,.string Q],.agg #[.int .i64 v1,.int .i64 v2,.int .i64 v3,.string v4,.string v5]] w fun e w'=>e=.returned (.bool (mJ ⟨3,a,b,c,P.data.toList⟩ ⟨v1,v2,v3,v4.data.toList⟩))/\w.grownBy w' none:=by
 go_enter func127,ntmps127;go_wp2
 all_goals go_ret
 all_goals (refine⟨aJ ?_,aj (aj (ak w none) _) _⟩;simp_all [mJ]<;>first|omega|rfl|(rw[Bool.eq_iff_iff];simp;omega))
theorem aaZ(a b c:Int)(P Q:ByteArray)(w:World) :
  Calls prog 126 #[.agg #[.int .i64 0,.int .i64 a,.int .i64 b,.int .i64 c,.string P,.string Q]] w fun e w'=>e=.returned (.agg #[.int .i64 a,.int .i64 b,.int .i64 c,.string ⟨#[48]⟩,.string ⟨#[]⟩])/\w.grownBy w' none:=by
 have CP:=ae (Fb a b c P Q);go_enter func126,ntmps126;go_wp2_with (go_at_call 151;refine(CP.o _).mono ?_);rintro e w1 ⟨rfl,hg⟩;obtain⟨A,hA⟩:=zN (w.heap.size);have HP:Hd (PR A 0 a b c P Q w1):=by
  refine PR.grow (w:=(w.alloc (.cells #[.int .i64 0,.int .i64 a,.int .i64 b,.int .i64 c,.string P,.string Q] 166)).alloc (.cells #[.int .i64 0,.int .i64 0,.int .i64 0,.string ⟨#[]⟩,.string ⟨#[]⟩] 98)) ?_ hg;unfold PR;rw[<-hA,Lib.alloc_old _ _ _ (by simp)];exact heap_alloc_new w _
 have HR:Hd (w1.heap[A+1]?=some (.cells #[.int .i64 0,.int .i64 0,.int .i64 0,.string ⟨#[]⟩,.string ⟨#[]⟩] 98 (0,0))):=by
  show _=_;have:=heap_alloc_new (w.alloc (.cells #[.int .i64 0,.int .i64 a,.int .i64 b,.int .i64 c,.string P,.string Q] 166)) (.cells #[.int .i64 0,.int .i64 0,.int .i64 0,.string ⟨#[]⟩,.string ⟨#[]⟩] 98);rw[hg.block (A+1) (by simp;omega) (by simp),<-hA];simpa using this
 have HG:=ae (ag (aj (aj (ak w none) _) _) hg);have HA1:Hd (w.heap.size<=A/\A+1<w1.heap.size):=by
  refine⟨by omega,?_⟩;have:=(aB HR.o);omega
 try rw[hA]
 clear hA hg;obtain⟨C,hC⟩:=zN (w1.heap.size);obtain⟨W,hW⟩:=zN (w1.alloc (.cells #[.int .i64 a,.int .i64 b,.int .i64 c,.string P,.string ⟨#[]⟩] 98));have hgW:w1.grownBy W none:=by rw[<-hW];exact aj (ak w1 none) _
 have yg:=ae (HP.o.grow hgW);have HRW:Hd (W.heap[A+1]?=some (.cells #[.int .i64 0,.int .i64 0,.int .i64 0,.string ⟨#[]⟩,.string ⟨#[]⟩] 98 (0,0))):=by show _=_;rw[hgW.block (A+1) HA1.o.2 (by simp)];exact HR.o
 have bC:Hd (W.heap[C]?=some (.cells #[.int .i64 a,.int .i64 b,.int .i64 c,.string P,.string ⟨#[]⟩] 98 (0,0))):=by show _=_;rw[<-hW,<-hC];exact heap_alloc_new w1 _
 have bT:=ae (ag HG.o hgW);have iY:Hd (w.heap.size<=A/\A+1<C):=by show _/\_;rw[<-hC];exact HA1.o
 clear hgW HP HR HG HA1;obtain⟨e0,e1,e2,e3,e4,e5⟩:=yg.o.cells;have r0:W.cell? ⟨A+1,0,none⟩=some (.int .i64 0):=by rw[ah HRW.o];rfl
 have r1:W.cell? ⟨A+1,1,none⟩=some (.int .i64 0):=by rw[ah HRW.o];rfl
 have r2:W.cell? ⟨A+1,2,none⟩=some (.int .i64 0):=by rw[ah HRW.o];rfl
 have r3:W.cell? ⟨A+1,3,none⟩=some (.string ⟨#[]⟩):=by rw[ah HRW.o];rfl
 have r4:W.cell? ⟨A+1,4,none⟩=some (.string ⟨#[]⟩):=by rw[ah HRW.o];rfl
 have rf:=Lib.frozen_of_heap HRW.o;have c0:W.cell? ⟨C,0,none⟩=some (.int .i64 a):=by rw[ah bC.o];rfl
 have c1:W.cell? ⟨C,1,none⟩=some (.int .i64 b):=by rw[ah bC.o];rfl
 have c2:W.cell? ⟨C,2,none⟩=some (.int .i64 c):=by rw[ah bC.o];rfl
 have c3:W.cell? ⟨C,3,none⟩=some (.string P):=by rw[ah bC.o];rfl
 have c4:W.cell? ⟨C,4,none⟩=some (.string ⟨#[]⟩):=by rw[ah bC.o];rfl
 have cf:=Lib.frozen_of_heap bC.o;have hcc:=iY.o;have n1:¬(A+1=C):=by omega
 have n2:¬(C=A+1):=by omega
 have n3:¬(A=C):=by omega
 have n4:¬(C=A):=by omega
 clear hcc;go_wp2;have hcc:=iY.o;have hrw:=HRW.o;refine bodyPost_ret (results_cell_row rfl _ _ (A+1) 98 #[.int .i64 a,.int .i64 b,.int .i64 c,.string ⟨#[48]⟩,.string ⟨#[]⟩] (0,0) _ rfl ?_ underlying98 rfl (by kernel_rfl)) rfl ⟨rfl,by repeat (first|refine FZ ?_ (by omega)|exact bT.o)⟩;simp[World.setCell,Array.getElem?_modify,hrw,n2]
theorem aa0(a b c:Int)(P Q:ByteArray)(w:World) :
  Calls prog 126 #[.agg #[.int .i64 1,.int .i64 a,.int .i64 b,.int .i64 c,.string P,.string Q]] w fun e w'=>e=.returned (.agg #[.int .i64 a,.int .i64 b,.int .i64 c,.string ⟨#[48]⟩,.string ⟨#[]⟩])/\w.grownBy w' none:=by
 have CP:=ae (Fb a b c P Q);go_enter func126,ntmps126;go_wp2_with (go_at_call 151;refine(CP.o _).mono ?_);rintro e w1 ⟨rfl,hg⟩;obtain⟨A,hA⟩:=zN (w.heap.size);have HP:Hd (PR A 1 a b c P Q w1):=by
  refine PR.grow (w:=(w.alloc (.cells #[.int .i64 1,.int .i64 a,.int .i64 b,.int .i64 c,.string P,.string Q] 166)).alloc (.cells #[.int .i64 0,.int .i64 0,.int .i64 0,.string ⟨#[]⟩,.string ⟨#[]⟩] 98)) ?_ hg;unfold PR;rw[<-hA,Lib.alloc_old _ _ _ (by simp)];exact heap_alloc_new w _
 have HR:Hd (w1.heap[A+1]?=some (.cells #[.int .i64 0,.int .i64 0,.int .i64 0,.string ⟨#[]⟩,.string ⟨#[]⟩] 98 (0,0))):=by
  show _=_;have:=heap_alloc_new (w.alloc (.cells #[.int .i64 1,.int .i64 a,.int .i64 b,.int .i64 c,.string P,.string Q] 166)) (.cells #[.int .i64 0,.int .i64 0,.int .i64 0,.string ⟨#[]⟩,.string ⟨#[]⟩] 98);rw[hg.block (A+1) (by simp;omega) (by simp),<-hA];simpa using this
 have HG:=ae (ag (aj (aj (ak w none) _) _) hg);have HA1:Hd (w.heap.size<=A/\A+1<w1.heap.size):=by
  refine⟨by omega,?_⟩;have:=(aB HR.o);omega
 try rw[hA]
 clear hA hg;obtain⟨C,hC⟩:=zN (w1.heap.size);obtain⟨W,hW⟩:=zN (w1.alloc (.cells #[.int .i64 a,.int .i64 b,.int .i64 c,.string P,.string ⟨#[]⟩] 98));have hgW:w1.grownBy W none:=by rw[<-hW];exact aj (ak w1 none) _
 have yg:=ae (HP.o.grow hgW);have HRW:Hd (W.heap[A+1]?=some (.cells #[.int .i64 0,.int .i64 0,.int .i64 0,.string ⟨#[]⟩,.string ⟨#[]⟩] 98 (0,0))):=by show _=_;rw[hgW.block (A+1) HA1.o.2 (by simp)];exact HR.o
 have bC:Hd (W.heap[C]?=some (.cells #[.int .i64 a,.int .i64 b,.int .i64 c,.string P,.string ⟨#[]⟩] 98 (0,0))):=by show _=_;rw[<-hW,<-hC];exact heap_alloc_new w1 _
 have bT:=ae (ag HG.o hgW);have iY:Hd (w.heap.size<=A/\A+1<C):=by show _/\_;rw[<-hC];exact HA1.o
 clear hgW HP HR HG HA1;obtain⟨e0,e1,e2,e3,e4,e5⟩:=yg.o.cells;have r0:W.cell? ⟨A+1,0,none⟩=some (.int .i64 0):=by rw[ah HRW.o];rfl
 have r1:W.cell? ⟨A+1,1,none⟩=some (.int .i64 0):=by rw[ah HRW.o];rfl
 have r2:W.cell? ⟨A+1,2,none⟩=some (.int .i64 0):=by rw[ah HRW.o];rfl
 have r3:W.cell? ⟨A+1,3,none⟩=some (.string ⟨#[]⟩):=by rw[ah HRW.o];rfl
 have r4:W.cell? ⟨A+1,4,none⟩=some (.string ⟨#[]⟩):=by rw[ah HRW.o];rfl
 have rf:=Lib.frozen_of_heap HRW.o;have c0:W.cell? ⟨C,0,none⟩=some (.int .i64 a):=by rw[ah bC.o];rfl
 have c1:W.cell? ⟨C,1,none⟩=some (.int .i64 b):=by rw[ah bC.o];rfl
 have c2:W.cell? ⟨C,2,none⟩=some (.int .i64 c):=by rw[ah bC.o];rfl
 have c3:W.cell? ⟨C,3,none⟩=some (.string P):=by rw[ah bC.o];rfl
 have c4:W.cell? ⟨C,4,none⟩=some (.string ⟨#[]⟩):=by rw[ah bC.o];rfl
 have cf:=Lib.frozen_of_heap bC.o;have hcc:=iY.o;have n1:¬(A+1=C):=by omega
 have n2:¬(C=A+1):=by omega
 have n3:¬(A=C):=by omega
 have n4:¬(C=A):=by omega
 clear hcc;go_wp2;have hcc:=iY.o;have hrw:=HRW.o;refine bodyPost_ret (results_cell_row rfl _ _ (A+1) 98 #[.int .i64 a,.int .i64 b,.int .i64 c,.string ⟨#[48]⟩,.string ⟨#[]⟩] (0,0) _ rfl ?_ underlying98 rfl (by kernel_rfl)) rfl ⟨rfl,by repeat (first|refine FZ ?_ (by omega)|exact bT.o)⟩;simp[World.setCell,Array.getElem?_modify,hrw,n2]
theorem aa1(a b c:Int)(P Q:ByteArray)(w:World) :
  Calls prog 126 #[.agg #[.int .i64 2,.int .i64 a,.int .i64 b,.int .i64 c,.string P,.string Q]] w fun e w'=>e=.returned (.agg #[.int .i64 a,.int .i64 b,.int .i64 c,.string ⟨#[48]⟩,.string ⟨#[]⟩])/\w.grownBy w' none:=by
 have CP:=ae (Fb a b c P Q);go_enter func126,ntmps126;go_wp2_with (go_at_call 151;refine(CP.o _).mono ?_);rintro e w1 ⟨rfl,hg⟩;obtain⟨A,hA⟩:=zN (w.heap.size);have HP:Hd (PR A 2 a b c P Q w1):=by
  refine PR.grow (w:=(w.alloc (.cells #[.int .i64 2,.int .i64 a,.int .i64 b,.int .i64 c,.string P,.string Q] 166)).alloc (.cells #[.int .i64 0,.int .i64 0,.int .i64 0,.string ⟨#[]⟩,.string ⟨#[]⟩] 98)) ?_ hg;unfold PR;rw[<-hA,Lib.alloc_old _ _ _ (by simp)];exact heap_alloc_new w _
 have HR:Hd (w1.heap[A+1]?=some (.cells #[.int .i64 0,.int .i64 0,.int .i64 0,.string ⟨#[]⟩,.string ⟨#[]⟩] 98 (0,0))):=by
  show _=_;have:=heap_alloc_new (w.alloc (.cells #[.int .i64 2,.int .i64 a,.int .i64 b,.int .i64 c,.string P,.string Q] 166)) (.cells #[.int .i64 0,.int .i64 0,.int .i64 0,.string ⟨#[]⟩,.string ⟨#[]⟩] 98);rw[hg.block (A+1) (by simp;omega) (by simp),<-hA];simpa using this
 have HG:=ae (ag (aj (aj (ak w none) _) _) hg);have HA1:Hd (w.heap.size<=A/\A+1<w1.heap.size):=by
  refine⟨by omega,?_⟩;have:=(aB HR.o);omega
 try rw[hA]
 clear hA hg;obtain⟨C,hC⟩:=zN (w1.heap.size);obtain⟨W,hW⟩:=zN (w1.alloc (.cells #[.int .i64 a,.int .i64 b,.int .i64 c,.string P,.string ⟨#[]⟩] 98));have hgW:w1.grownBy W none:=by rw[<-hW];exact aj (ak w1 none) _
 have yg:=ae (HP.o.grow hgW);have HRW:Hd (W.heap[A+1]?=some (.cells #[.int .i64 0,.int .i64 0,.int .i64 0,.string ⟨#[]⟩,.string ⟨#[]⟩] 98 (0,0))):=by show _=_;rw[hgW.block (A+1) HA1.o.2 (by simp)];exact HR.o
 have bC:Hd (W.heap[C]?=some (.cells #[.int .i64 a,.int .i64 b,.int .i64 c,.string P,.string ⟨#[]⟩] 98 (0,0))):=by show _=_;rw[<-hW,<-hC];exact heap_alloc_new w1 _
 have bT:=ae (ag HG.o hgW);have iY:Hd (w.heap.size<=A/\A+1<C):=by show _/\_;rw[<-hC];exact HA1.o
 clear hgW HP HR HG HA1;obtain⟨e0,e1,e2,e3,e4,e5⟩:=yg.o.cells;have r0:W.cell? ⟨A+1,0,none⟩=some (.int .i64 0):=by rw[ah HRW.o];rfl
 have r1:W.cell? ⟨A+1,1,none⟩=some (.int .i64 0):=by rw[ah HRW.o];rfl
 have r2:W.cell? ⟨A+1,2,none⟩=some (.int .i64 0):=by rw[ah HRW.o];rfl
 have r3:W.cell? ⟨A+1,3,none⟩=some (.string ⟨#[]⟩):=by rw[ah HRW.o];rfl
 have r4:W.cell? ⟨A+1,4,none⟩=some (.string ⟨#[]⟩):=by rw[ah HRW.o];rfl
 have rf:=Lib.frozen_of_heap HRW.o;have c0:W.cell? ⟨C,0,none⟩=some (.int .i64 a):=by rw[ah bC.o];rfl
 have c1:W.cell? ⟨C,1,none⟩=some (.int .i64 b):=by rw[ah bC.o];rfl
 have c2:W.cell? ⟨C,2,none⟩=some (.int .i64 c):=by rw[ah bC.o];rfl
 have c3:W.cell? ⟨C,3,none⟩=some (.string P):=by rw[ah bC.o];rfl
 have c4:W.cell? ⟨C,4,none⟩=some (.string ⟨#[]⟩):=by rw[ah bC.o];rfl
 have cf:=Lib.frozen_of_heap bC.o;have hcc:=iY.o;have n1:¬(A+1=C):=by omega
 have n2:¬(C=A+1):=by omega
 have n3:¬(A=C):=by omega
 have n4:¬(C=A):=by omega
 clear hcc;go_wp2;have hcc:=iY.o;have hrw:=HRW.o;refine bodyPost_ret (results_cell_row rfl _ _ (A+1) 98 #[.int .i64 a,.int .i64 b,.int .i64 c,.string ⟨#[48]⟩,.string ⟨#[]⟩] (0,0) _ rfl ?_ underlying98 rfl (by kernel_rfl)) rfl ⟨rfl,by repeat (first|refine FZ ?_ (by omega)|exact bT.o)⟩;simp[World.setCell,Array.getElem?_modify,hrw,n2]
theorem aa2(a b c:Int)(P Q:ByteArray)(w:World) :
  Calls prog 126 #[.agg #[.int .i64 3,.int .i64 a,.int .i64 b,.int .i64 c,.string P,.string Q]] w fun e w'=>e=.returned (.agg #[.int .i64 a,.int .i64 b,.int .i64 c,.string P,.string ⟨#[]⟩])/\w.grownBy w' none:=by
 have CP:=ae (Fb a b c P Q);go_enter func126,ntmps126;go_wp2_with (go_at_call 151;refine(CP.o _).mono ?_);rintro e w1 ⟨rfl,hg⟩;obtain⟨A,hA⟩:=zN (w.heap.size);have HP:Hd (PR A 3 a b c P Q w1):=by
  refine PR.grow (w:=(w.alloc (.cells #[.int .i64 3,.int .i64 a,.int .i64 b,.int .i64 c,.string P,.string Q] 166)).alloc (.cells #[.int .i64 0,.int .i64 0,.int .i64 0,.string ⟨#[]⟩,.string ⟨#[]⟩] 98)) ?_ hg;unfold PR;rw[<-hA,Lib.alloc_old _ _ _ (by simp)];exact heap_alloc_new w _
 have HR:Hd (w1.heap[A+1]?=some (.cells #[.int .i64 0,.int .i64 0,.int .i64 0,.string ⟨#[]⟩,.string ⟨#[]⟩] 98 (0,0))):=by
  show _=_;have:=heap_alloc_new (w.alloc (.cells #[.int .i64 3,.int .i64 a,.int .i64 b,.int .i64 c,.string P,.string Q] 166)) (.cells #[.int .i64 0,.int .i64 0,.int .i64 0,.string ⟨#[]⟩,.string ⟨#[]⟩] 98);rw[hg.block (A+1) (by simp;omega) (by simp),<-hA];simpa using this
 have HG:=ae (ag (aj (aj (ak w none) _) _) hg);have HA1:Hd (w.heap.size<=A/\A+1<w1.heap.size):=by
  refine⟨by omega,?_⟩;have:=(aB HR.o);omega
 try rw[hA]
 clear hA hg;obtain⟨C,hC⟩:=zN (w1.heap.size);obtain⟨W,hW⟩:=zN (w1.alloc (.cells #[.int .i64 a,.int .i64 b,.int .i64 c,.string P,.string ⟨#[]⟩] 98));have hgW:w1.grownBy W none:=by rw[<-hW];exact aj (ak w1 none) _
 have yg:=ae (HP.o.grow hgW);have HRW:Hd (W.heap[A+1]?=some (.cells #[.int .i64 0,.int .i64 0,.int .i64 0,.string ⟨#[]⟩,.string ⟨#[]⟩] 98 (0,0))):=by show _=_;rw[hgW.block (A+1) HA1.o.2 (by simp)];exact HR.o
 have bC:Hd (W.heap[C]?=some (.cells #[.int .i64 a,.int .i64 b,.int .i64 c,.string P,.string ⟨#[]⟩] 98 (0,0))):=by show _=_;rw[<-hW,<-hC];exact heap_alloc_new w1 _
 have bT:=ae (ag HG.o hgW);have iY:Hd (w.heap.size<=A/\A+1<C):=by show _/\_;rw[<-hC];exact HA1.o
 clear hgW HP HR HG HA1;obtain⟨e0,e1,e2,e3,e4,e5⟩:=yg.o.cells;have r0:W.cell? ⟨A+1,0,none⟩=some (.int .i64 0):=by rw[ah HRW.o];rfl
 have r1:W.cell? ⟨A+1,1,none⟩=some (.int .i64 0):=by rw[ah HRW.o];rfl
 have r2:W.cell? ⟨A+1,2,none⟩=some (.int .i64 0):=by rw[ah HRW.o];rfl
 have r3:W.cell? ⟨A+1,3,none⟩=some (.string ⟨#[]⟩):=by rw[ah HRW.o];rfl
 have r4:W.cell? ⟨A+1,4,none⟩=some (.string ⟨#[]⟩):=by rw[ah HRW.o];rfl
 have rf:=Lib.frozen_of_heap HRW.o;have c0:W.cell? ⟨C,0,none⟩=some (.int .i64 a):=by rw[ah bC.o];rfl
 have c1:W.cell? ⟨C,1,none⟩=some (.int .i64 b):=by rw[ah bC.o];rfl
 have c2:W.cell? ⟨C,2,none⟩=some (.int .i64 c):=by rw[ah bC.o];rfl
 have c3:W.cell? ⟨C,3,none⟩=some (.string P):=by rw[ah bC.o];rfl
 have c4:W.cell? ⟨C,4,none⟩=some (.string ⟨#[]⟩):=by rw[ah bC.o];rfl
 have cf:=Lib.frozen_of_heap bC.o;have hcc:=iY.o;have n1:¬(A+1=C):=by omega
 have n2:¬(C=A+1):=by omega
 have n3:¬(A=C):=by omega
 have n4:¬(C=A):=by omega
 clear hcc;go_wp2;have hcc:=iY.o;have hrw:=HRW.o;refine bodyPost_ret (results_cell_row rfl _ _ (A+1) 98 #[.int .i64 a,.int .i64 b,.int .i64 c,.string P,.string ⟨#[]⟩] (0,0) _ rfl ?_ underlying98 rfl (by kernel_rfl)) rfl ⟨rfl,by repeat (first|refine FZ ?_ (by omega)|exact bT.o)⟩;simp[World.setCell,Array.getElem?_modify,hrw,n2]
open Go.RowKit
theorem J5{p0 p1 p2 p3 p4 p5 p6 p7 p8 p9 p10:Addr}{c0 c1 c2 c3 c4 c5 c6 c7 c8 c9 c10:Value}{w w':World}(hg:w.grownBy w' none)(h:w.cell? p0=some c0/\w.cell? p1=some c1/\w.cell? p2=some c2/\w.cell? p3=some c3/\w.cell? p4=some c4/\w.cell? p5=some c5/\w.cell? p6=some c6/\w.cell? p7=some c7/\w.cell? p8=some c8/\w.cell? p9=some c9/\w.cell? p10=some c10):w'.cell? p0=some c0/\w'.cell? p1=some c1/\w'.cell? p2=some c2/\w'.cell? p3=some c3/\w'.cell? p4=some c4/\w'.cell? p5=some c5/\w'.cell? p6=some c6/\w'.cell? p7=some c7/\w'.cell? p8=some c8/\w'.cell? p9=some c9/\w'.cell? p10=some c10:=by
 obtain⟨h0,h1,h2,h3,h4,h5,h6,h7,h8,h9,h10⟩:=h;exact⟨hg.cell h0 (by simp),hg.cell h1 (by simp),hg.cell h2 (by simp),hg.cell h3 (by simp),hg.cell h4 (by simp),hg.cell h5 (by simp),hg.cell h6 (by simp),hg.cell h7 (by simp),hg.cell h8 (by simp),hg.cell h9 (by simp),hg.cell h10 (by simp)⟩
def TR(A:Nat)(sg n a b c:Int)(P Q:ByteArray)(w:World):Prop:=w.heap[A]?=some (.cells #[.int .i64 sg,.int .i64 n,.int .i64 a,.int .i64 b,.int .i64 c,.string P,.string Q] 168 (0,0))
theorem TR.cells{A:Nat}{sg n a b c:Int}{P Q:ByteArray}{w:World}(h:TR A sg n a b c P Q w):w.cell? ⟨A,0,none⟩=some (.int .i64 sg)/\w.cell? ⟨A,1,none⟩=some (.int .i64 n)/\w.cell? ⟨A,2,none⟩=some (.int .i64 a)/\w.cell? ⟨A,3,none⟩=some (.int .i64 b)/\w.cell? ⟨A,4,none⟩=some (.int .i64 c)/\w.cell? ⟨A,5,none⟩=some (.string P)/\w.cell? ⟨A,6,none⟩=some (.string Q) :=
 ⟨by rw[ah h];rfl,by rw[ah h];rfl,by rw[ah h];rfl,by rw[ah h];rfl,by rw[ah h];rfl,by rw[ah h];rfl,by rw[ah h];rfl⟩
theorem TR.grow{A:Nat}{sg n a b c:Int}{P Q:ByteArray}{w w':World}(h:TR A sg n a b c P Q w)(hg:w.grownBy w' none):TR A sg n a b c P Q w':=by
 unfold TR at h ⊢;rw[hg.block A ((aB h)) (by simp)];exact h
theorem F5(w:World)(p:Addr):w.drew.cell? p=w.cell? p:=rfl
theorem F6(w:World)(o1 o2:Obj):((w.alloc o1).alloc o2).heap[w.heap.size+1]?=some o2:=by
 have:=heap_alloc_new (w.alloc o1) o2;simpa using this
theorem aa3(sg:Int)(hs:0<=sg/\sg<=7)(a b c v1 v2 v3:Int)(P Q v4 v5:ByteArray)(w:World)(hp:P.size<=1048576)(hv:v4.size<=1048576) :
  Calls prog 98 #[.agg #[.int .i64 sg,.int .i64 0,.int .i64 a,.int .i64 b,.int .i64 c,.string P,.string Q],.agg #[.int .i64 v1,.int .i64 v2,.int .i64 v3,.string v4,.string v5]] w fun e w'=>e=.returned (.bool (iD ⟨sg,⟨0,a,b,c,P.data.toList⟩⟩ ⟨v1,v2,v3,v4.data.toList⟩))/\w.grownBy w' none:=by
 obtain⟨N,hN⟩:=zN (iC ⟨0,a,b,c,P.data.toList⟩ ⟨v1,v2,v3,v4.data.toList⟩);obtain⟨C,hC⟩:=zN (eQ ⟨0,a,b,c,P.data.toList⟩ ⟨v1,v2,v3,v4.data.toList⟩);obtain⟨L,hL⟩:=zN (mJ ⟨0,a,b,c,P.data.toList⟩ ⟨v1,v2,v3,v4.data.toList⟩);obtain⟨x,hx⟩:=zN (aC (bF ⟨0,a,b,c,P.data.toList⟩) ⟨v1,v2,v3,v4.data.toList⟩);have CN:Hd (∀w,Calls prog 125 #[.agg #[.int .i64 0,.int .i64 a,.int .i64 b,.int .i64 c,.string P,.string Q],.agg #[.int .i64 v1,.int .i64 v2,.int .i64 v3,.string v4,.string v5]] w fun e w'=>e=.returned (.bool N)/\w.grownBy w' none):=fun w=>by rw[<-hN];exact Rl a b c v1 v2 v3 P Q v4 v5 w
 have CP:Hd (∀w,Calls prog 124 #[.agg #[.int .i64 0,.int .i64 a,.int .i64 b,.int .i64 c,.string P,.string Q],.agg #[.int .i64 v1,.int .i64 v2,.int .i64 v3,.string v4,.string v5]] w fun e w'=>e=.returned (.int .i64 C)/\w.grownBy w' none):=fun w=>by rw[<-hC];exact aaR a b c v1 v2 v3 P Q v4 v5 w hp hv
 have CL:Hd (∀w,Calls prog 127 #[.agg #[.int .i64 0,.int .i64 a,.int .i64 b,.int .i64 c,.string P,.string Q],.agg #[.int .i64 v1,.int .i64 v2,.int .i64 v3,.string v4,.string v5]] w fun e w'=>e=.returned (.bool L)/\w.grownBy w' none):=fun w=>by rw[<-hL];exact aaV a b c v1 v2 v3 P Q v4 v5 w
 have CF:=ae (aaZ a b c P Q);have CC:Hd (∀w,Calls prog 44 #[.agg #[.int .i64 a,.int .i64 b,.int .i64 c,.string ⟨#[48]⟩,.string ⟨#[]⟩],.agg #[.int .i64 v1,.int .i64 v2,.int .i64 v3,.string v4,.string v5]] w fun e w'=>e=.returned (.int .i64 x)/\w.grownBy w' none):=fun w=>by
  rw[<-hx];refine(qY a b c v1 v2 v3 ⟨#[48]⟩ ⟨#[]⟩ v4 v5 w (by show 1<=_;omega) hv).mono ?_;rintro e w' ⟨rfl,h⟩;exact⟨rfl,pW h⟩
 obtain⟨F,hF⟩:=zN (pz ⟨0,a,b,c,P.data.toList⟩ ⟨v1,v2,v3,v4.data.toList⟩);have oG:Hd (F=true):=by show F=_;rw[<-hF];rfl
 obtain⟨R,hR⟩:=zN (iD ⟨sg,⟨0,a,b,c,P.data.toList⟩⟩ ⟨v1,v2,v3,v4.data.toList⟩);have HR:Hd (R=if sg=0 then N else if sg=1 then decide (0<=C) else if sg=2 then decide (C<=0) else if sg=3 then decide (0<C) else if sg=4 then decide (C<0) else if sg=5 then F && L else if sg=6 then(F && (decide (0<1) || decide (v1=a))) && (decide (0<2) || decide (v2=b)) else F):=by
  show R=_;rw[<-hR];unfold iD;rw[hN,hC,hL,hF]
 rw[hR];have dE:=ae hs;clear hN hC hL hx hF hR hp hv hs;go_enter func98,ntmps98;go_wp2_with (go_at_call 124;refine(CP.o _).mono ?_);rintro e w1 ⟨rfl,hg⟩;obtain⟨A,hA⟩:=zN (w.heap.size);have HT:Hd (TR A sg 0 a b c P Q w1):=by
  refine TR.grow (w:=(w.alloc (.cells #[.int .i64 sg,.int .i64 0,.int .i64 a,.int .i64 b,.int .i64 c,.string P,.string Q] 168)).alloc (.cells #[.int .i64 v1,.int .i64 v2,.int .i64 v3,.string v4,.string v5] 98)) ?_ hg;unfold TR;rw[<-hA,Lib.alloc_old _ _ _ (by simp)];exact heap_alloc_new w _
 have HV:Hd (St (A+1) v1 v2 v3 v4 v5 w1):=by
  refine St.grow ?_ hg;refine l9 (t:=98) ?_;rw[<-hA];exact F6 w _ _
 have HG:=ae (ag (aj (aj (ak w none) _) _) hg)
 try rw[hA]
 clear hA hg;obtain⟨t0,t1,t2,t3,t4,t5,t6⟩:=HT.o.cells;obtain⟨s1,s2,s3,s4,s5⟩:=HV.o;go_wp2_with (go_at_call 125;refine(CN.o _).mono ?_);rintro e w2 ⟨rfl,hg⟩;replace HT:=ae (HT.o.grow hg);replace HV:=ae (HV.o.grow hg);replace HG:=ae (ag HG.o hg);clear hg t0 t1 t2 t3 t4 t5 t6 s1 s2 s3 s4 s5;obtain⟨t0,t1,t2,t3,t4,t5,t6⟩:=HT.o.cells;obtain⟨s1,s2,s3,s4,s5⟩:=HV.o;go_wp2_with (fail);go_quiet (fail);obtain⟨U,hU⟩:=zN (w2.drewN nq);replace HT:Hd (TR A sg 0 a b c P Q U):=by show TR _ _ _ _ _ _ _ _ U;rw[<-hU];exact HT.o
 replace HV:Hd (St (A+1) v1 v2 v3 v4 v5 U):=by show St _ _ _ _ _ _ U;rw[<-hU];exact HV.o
 replace HG:Hd (w.grownBy U none):=by show w.grownBy U none;rw[<-hU];exact aG HG.o _
 try rw[hU]
 clear hU t0 t1 t2 t3 t4 t5 t6 s1 s2 s3 s4 s5;have yh:=oG.o;subst yh;have hss:sg=0\/sg=1\/sg=2\/sg=3\/sg=4\/sg=5\/sg=6\/sg=7:=by have:=dE.o;omega
 clear dE;obtain⟨t0,t1,t2,t3,t4,t5,t6⟩:=HT.o.cells;obtain⟨s1,s2,s3,s4,s5⟩:=HV.o
 rcases hss with rfl|rfl|rfl|rfl|rfl|rfl|rfl|rfl
 ·go_wp2
  all_goals go_ret
  all_goals (refine⟨aJ ?_,HG.o⟩;have hr:=HR.o;clear HR;simp_all<;>rfl)
 ·go_wp2
  all_goals go_ret
  all_goals (refine⟨aJ ?_,HG.o⟩;have hr:=HR.o;clear HR;simp_all<;>rfl)
 ·go_wp2
  all_goals go_ret
  all_goals (refine⟨aJ ?_,HG.o⟩;have hr:=HR.o;clear HR;simp_all<;>rfl)
 ·go_wp2
  all_goals go_ret
  all_goals (refine⟨aJ ?_,HG.o⟩;have hr:=HR.o;clear HR;simp_all<;>rfl)
 ·go_wp2
  all_goals go_ret
  all_goals (refine⟨aJ ?_,HG.o⟩;have hr:=HR.o;clear HR;simp_all<;>rfl)
 ·go_wp2_with (go_at_call 127;refine(CL.o _).mono ?_);rintro e w5 rfl hg5;replace HG:=ae (ag HG.o hg5);clear hg5;go_wp2
  all_goals go_ret
  all_goals (refine⟨aJ ?_,HG.o⟩;have hr:=HR.o;clear HR;simp_all<;>rfl)
 ·go_wp2
  all_goals go_ret
  all_goals (refine⟨aJ ?_,HG.o⟩;have hr:=HR.o;clear HR;simp_all<;>rfl)
 ·go_wp2
  all_goals go_ret
  all_goals (refine⟨aJ ?_,HG.o⟩;have hr:=HR.o;clear HR;simp_all<;>rfl)
theorem aa4(sg:Int)(hs:0<=sg/\sg<=7)(a b c v1 v2 v3:Int)(P Q v4 v5:ByteArray)(w:World)(hp:P.size<=1048576)(hv:v4.size<=1048576) :
  Calls prog 98 #[.agg #[.int .i64 sg,.int .i64 1,.int .i64 a,.int .i64 b,.int .i64 c,.string P,.string Q],.agg #[.int .i64 v1,.int .i64 v2,.int .i64 v3,.string v4,.string v5]] w fun e w'=>e=.returned (.bool (iD ⟨sg,⟨1,a,b,c,P.data.toList⟩⟩ ⟨v1,v2,v3,v4.data.toList⟩))/\w.grownBy w' none:=by
 obtain⟨N,hN⟩:=zN (iC ⟨1,a,b,c,P.data.toList⟩ ⟨v1,v2,v3,v4.data.toList⟩);obtain⟨C,hC⟩:=zN (eQ ⟨1,a,b,c,P.data.toList⟩ ⟨v1,v2,v3,v4.data.toList⟩);obtain⟨L,hL⟩:=zN (mJ ⟨1,a,b,c,P.data.toList⟩ ⟨v1,v2,v3,v4.data.toList⟩);obtain⟨x,hx⟩:=zN (aC (bF ⟨1,a,b,c,P.data.toList⟩) ⟨v1,v2,v3,v4.data.toList⟩);have CN:Hd (∀w,Calls prog 125 #[.agg #[.int .i64 1,.int .i64 a,.int .i64 b,.int .i64 c,.string P,.string Q],.agg #[.int .i64 v1,.int .i64 v2,.int .i64 v3,.string v4,.string v5]] w fun e w'=>e=.returned (.bool N)/\w.grownBy w' none):=fun w=>by rw[<-hN];exact Rn a b c v1 v2 v3 P Q v4 v5 w
 have CP:Hd (∀w,Calls prog 124 #[.agg #[.int .i64 1,.int .i64 a,.int .i64 b,.int .i64 c,.string P,.string Q],.agg #[.int .i64 v1,.int .i64 v2,.int .i64 v3,.string v4,.string v5]] w fun e w'=>e=.returned (.int .i64 C)/\w.grownBy w' none):=fun w=>by rw[<-hC];exact aaS a b c v1 v2 v3 P Q v4 v5 w hp hv
 have CL:Hd (∀w,Calls prog 127 #[.agg #[.int .i64 1,.int .i64 a,.int .i64 b,.int .i64 c,.string P,.string Q],.agg #[.int .i64 v1,.int .i64 v2,.int .i64 v3,.string v4,.string v5]] w fun e w'=>e=.returned (.bool L)/\w.grownBy w' none):=fun w=>by rw[<-hL];exact aaW a b c v1 v2 v3 P Q v4 v5 w
 have CF:=ae (aa0 a b c P Q);have CC:Hd (∀w,Calls prog 44 #[.agg #[.int .i64 a,.int .i64 b,.int .i64 c,.string ⟨#[48]⟩,.string ⟨#[]⟩],.agg #[.int .i64 v1,.int .i64 v2,.int .i64 v3,.string v4,.string v5]] w fun e w'=>e=.returned (.int .i64 x)/\w.grownBy w' none):=fun w=>by
  rw[<-hx];refine(qY a b c v1 v2 v3 ⟨#[48]⟩ ⟨#[]⟩ v4 v5 w (by show 1<=_;omega) hv).mono ?_;rintro e w' ⟨rfl,h⟩;exact⟨rfl,pW h⟩
 obtain⟨F,hF⟩:=zN (pz ⟨1,a,b,c,P.data.toList⟩ ⟨v1,v2,v3,v4.data.toList⟩);have oG:Hd (F=decide (x<=0)):=by show F=_;rw[<-hF,<-hx];rfl
 obtain⟨R,hR⟩:=zN (iD ⟨sg,⟨1,a,b,c,P.data.toList⟩⟩ ⟨v1,v2,v3,v4.data.toList⟩);have HR:Hd (R=if sg=0 then N else if sg=1 then decide (0<=C) else if sg=2 then decide (C<=0) else if sg=3 then decide (0<C) else if sg=4 then decide (C<0) else if sg=5 then F && L else if sg=6 then(F && (decide (1<1) || decide (v1=a))) && (decide (1<2) || decide (v2=b)) else F):=by
  show R=_;rw[<-hR];unfold iD;rw[hN,hC,hL,hF]
 rw[hR];have dE:=ae hs;clear hN hC hL hx hF hR hp hv hs;go_enter func98,ntmps98;go_wp2_with (go_at_call 124;refine(CP.o _).mono ?_);rintro e w1 ⟨rfl,hg⟩;obtain⟨A,hA⟩:=zN (w.heap.size);have HT:Hd (TR A sg 1 a b c P Q w1):=by
  refine TR.grow (w:=(w.alloc (.cells #[.int .i64 sg,.int .i64 1,.int .i64 a,.int .i64 b,.int .i64 c,.string P,.string Q] 168)).alloc (.cells #[.int .i64 v1,.int .i64 v2,.int .i64 v3,.string v4,.string v5] 98)) ?_ hg;unfold TR;rw[<-hA,Lib.alloc_old _ _ _ (by simp)];exact heap_alloc_new w _
 have HV:Hd (St (A+1) v1 v2 v3 v4 v5 w1):=by
  refine St.grow ?_ hg;refine l9 (t:=98) ?_;rw[<-hA];exact F6 w _ _
 have HG:=ae (ag (aj (aj (ak w none) _) _) hg)
 try rw[hA]
 clear hA hg;obtain⟨t0,t1,t2,t3,t4,t5,t6⟩:=HT.o.cells;obtain⟨s1,s2,s3,s4,s5⟩:=HV.o;go_wp2_with (first|(go_at_call 125;refine(CN.o _).mono ?_));rintro e w2 ⟨rfl,hg⟩;replace HT:=ae (HT.o.grow hg);replace HV:=ae (HV.o.grow hg);replace HG:=ae (ag HG.o hg);clear hg t0 t1 t2 t3 t4 t5 t6 s1 s2 s3 s4 s5;obtain⟨t0,t1,t2,t3,t4,t5,t6⟩:=HT.o.cells;obtain⟨s1,s2,s3,s4,s5⟩:=HV.o;obtain⟨fb,hfb⟩:=zN (decide (x<=0));have pI:=ae hfb;clear hfb;go_wp2_with (fail)
 go_region_held3 (fun w'=>w'.cell? ⟨A,1,none⟩=some (.int .i64 1)/\w'.cell? ⟨A,2,none⟩=some (.int .i64 a)/\w'.cell? ⟨A,3,none⟩=some (.int .i64 b)/\w'.cell? ⟨A,4,none⟩=some (.int .i64 c)/\w'.cell? ⟨A,5,none⟩=some (.string P)/\w'.cell? ⟨A,6,none⟩=some (.string Q)/\w'.cell? ⟨A+1,0,none⟩=some (.int .i64 v1)/\w'.cell? ⟨A+1,1,none⟩=some (.int .i64 v2)/\w'.cell? ⟨A+1,2,none⟩=some (.int .i64 v3)/\w'.cell? ⟨A+1,3,none⟩=some (.string v4)/\w'.cell? ⟨A+1,4,none⟩=some (.string v5)) (first|(simp only[F5];exact⟨t1,t2,t3,t4,t5,t6,s1,s2,s3,s4,s5⟩)|exact J5 (by assumption) (by assumption)) (first|(go_at_call 126;refine(CF.o _).mono ?_;rintro e w3 ⟨rfl,hg3⟩)|(go_at_call 44;refine(CC.o _).mono ?_;rintro e w4 ⟨rfl,hg4⟩))
 have hg5:=ag (bZ hg3) hg4;replace HT:=ae (HT.o.grow hg5);replace HV:=ae (HV.o.grow hg5);replace HG:=ae (ag HG.o hg5);clear hg3 hg4 hg5 t0 t1 t2 t3 t4 t5 t6 s1 s2 s3 s4 s5 pI;have yh:=oG.o;subst yh
 cases hxb:decide (x<=0) with
 | true =>
  rw[hxb]at HR;clear hxb oG;have hss:sg=0\/sg=1\/sg=2\/sg=3\/sg=4\/sg=5\/sg=6\/sg=7:=by have:=dE.o;omega
  clear dE;obtain⟨t0,t1,t2,t3,t4,t5,t6⟩:=HT.o.cells;obtain⟨s1,s2,s3,s4,s5⟩:=HV.o
  rcases hss with rfl|rfl|rfl|rfl|rfl|rfl|rfl|rfl
  ·go_wp2
   all_goals go_ret
   all_goals (refine⟨aJ ?_,HG.o⟩;have hr:=HR.o;clear HR;simp_all<;>rfl)
  ·go_wp2
   all_goals go_ret
   all_goals (refine⟨aJ ?_,HG.o⟩;have hr:=HR.o;clear HR;simp_all<;>rfl)
  ·go_wp2
   all_goals go_ret
   all_goals (refine⟨aJ ?_,HG.o⟩;have hr:=HR.o;clear HR;simp_all<;>rfl)
  ·go_wp2
   all_goals go_ret
   all_goals (refine⟨aJ ?_,HG.o⟩;have hr:=HR.o;clear HR;simp_all<;>rfl)
  ·go_wp2
   all_goals go_ret
   all_goals (refine⟨aJ ?_,HG.o⟩;have hr:=HR.o;clear HR;simp_all<;>rfl)
  ·go_wp2_with (go_at_call 127;refine(CL.o _).mono ?_);rintro e w5 rfl hg5;replace HG:=ae (ag HG.o hg5);clear hg5;go_wp2
   all_goals go_ret
   all_goals (refine⟨aJ ?_,HG.o⟩;have hr:=HR.o;clear HR;simp_all<;>rfl)
  ·go_wp2
   all_goals go_ret
   all_goals (refine⟨aJ ?_,HG.o⟩;have hr:=HR.o;clear HR;simp_all<;>rfl)
  ·go_wp2
   all_goals go_ret
   all_goals (refine⟨aJ ?_,HG.o⟩;have hr:=HR.o;clear HR;simp_all<;>rfl)
 | false =>
  rw[hxb]at HR;clear hxb oG;have hss:sg=0\/sg=1\/sg=2\/sg=3\/sg=4\/sg=5\/sg=6\/sg=7:=by have:=dE.o;omega
  clear dE;obtain⟨t0,t1,t2,t3,t4,t5,t6⟩:=HT.o.cells;obtain⟨s1,s2,s3,s4,s5⟩:=HV.o
  rcases hss with rfl|rfl|rfl|rfl|rfl|rfl|rfl|rfl
  ·go_wp2
   all_goals go_ret
   all_goals (refine⟨aJ ?_,HG.o⟩;have hr:=HR.o;clear HR;simp_all<;>rfl)
  ·go_wp2
   all_goals go_ret
   all_goals (refine⟨aJ ?_,HG.o⟩;have hr:=HR.o;clear HR;simp_all<;>rfl)
  ·go_wp2
   all_goals go_ret
   all_goals (refine⟨aJ ?_,HG.o⟩;have hr:=HR.o;clear HR;simp_all<;>rfl)
  ·go_wp2
   all_goals go_ret
   all_goals (refine⟨aJ ?_,HG.o⟩;have hr:=HR.o;clear HR;simp_all<;>rfl)
  ·go_wp2
   all_goals go_ret
   all_goals (refine⟨aJ ?_,HG.o⟩;have hr:=HR.o;clear HR;simp_all<;>rfl)
  ·go_wp2
   all_goals go_ret
   all_goals (refine⟨aJ ?_,HG.o⟩;have hr:=HR.o;clear HR;simp_all<;>rfl)
  ·go_wp2
   all_goals go_ret
   all_goals (refine⟨aJ ?_,HG.o⟩;have hr:=HR.o;clear HR;simp_all<;>rfl)
  ·go_wp2
   all_goals go_ret
   all_goals (refine⟨aJ ?_,HG.o⟩;have hr:=HR.o;clear HR;simp_all<;>rfl)
theorem aa5(sg:Int)(hs:0<=sg/\sg<=7)(a b c v1 v2 v3:Int)(P Q v4 v5:ByteArray)(w:World)(hp:P.size<=1048576)(hv:v4.size<=1048576) :
  Calls prog 98 #[.agg #[.int .i64 sg,.int .i64 2,.int .i64 a,.int .i64 b,.int .i64 c,.string P,.string Q],.agg #[.int .i64 v1,.int .i64 v2,.int .i64 v3,.string v4,.string v5]] w fun e w'=>e=.returned (.bool (iD ⟨sg,⟨2,a,b,c,P.data.toList⟩⟩ ⟨v1,v2,v3,v4.data.toList⟩))/\w.grownBy w' none:=by
 obtain⟨N,hN⟩:=zN (iC ⟨2,a,b,c,P.data.toList⟩ ⟨v1,v2,v3,v4.data.toList⟩);obtain⟨C,hC⟩:=zN (eQ ⟨2,a,b,c,P.data.toList⟩ ⟨v1,v2,v3,v4.data.toList⟩);obtain⟨L,hL⟩:=zN (mJ ⟨2,a,b,c,P.data.toList⟩ ⟨v1,v2,v3,v4.data.toList⟩);obtain⟨x,hx⟩:=zN (aC (bF ⟨2,a,b,c,P.data.toList⟩) ⟨v1,v2,v3,v4.data.toList⟩);have CN:Hd (∀w,Calls prog 125 #[.agg #[.int .i64 2,.int .i64 a,.int .i64 b,.int .i64 c,.string P,.string Q],.agg #[.int .i64 v1,.int .i64 v2,.int .i64 v3,.string v4,.string v5]] w fun e w'=>e=.returned (.bool N)/\w.grownBy w' none):=fun w=>by rw[<-hN];exact Rq a b c v1 v2 v3 P Q v4 v5 w
 have CP:Hd (∀w,Calls prog 124 #[.agg #[.int .i64 2,.int .i64 a,.int .i64 b,.int .i64 c,.string P,.string Q],.agg #[.int .i64 v1,.int .i64 v2,.int .i64 v3,.string v4,.string v5]] w fun e w'=>e=.returned (.int .i64 C)/\w.grownBy w' none):=fun w=>by rw[<-hC];exact aaT a b c v1 v2 v3 P Q v4 v5 w hp hv
 have CL:Hd (∀w,Calls prog 127 #[.agg #[.int .i64 2,.int .i64 a,.int .i64 b,.int .i64 c,.string P,.string Q],.agg #[.int .i64 v1,.int .i64 v2,.int .i64 v3,.string v4,.string v5]] w fun e w'=>e=.returned (.bool L)/\w.grownBy w' none):=fun w=>by rw[<-hL];exact aaX a b c v1 v2 v3 P Q v4 v5 w
 have CF:=ae (aa1 a b c P Q);have CC:Hd (∀w,Calls prog 44 #[.agg #[.int .i64 a,.int .i64 b,.int .i64 c,.string ⟨#[48]⟩,.string ⟨#[]⟩],.agg #[.int .i64 v1,.int .i64 v2,.int .i64 v3,.string v4,.string v5]] w fun e w'=>e=.returned (.int .i64 x)/\w.grownBy w' none):=fun w=>by
  rw[<-hx];refine(qY a b c v1 v2 v3 ⟨#[48]⟩ ⟨#[]⟩ v4 v5 w (by show 1<=_;omega) hv).mono ?_;rintro e w' ⟨rfl,h⟩;exact⟨rfl,pW h⟩
 obtain⟨F,hF⟩:=zN (pz ⟨2,a,b,c,P.data.toList⟩ ⟨v1,v2,v3,v4.data.toList⟩);have oG:Hd (F=decide (x<=0)):=by show F=_;rw[<-hF,<-hx];rfl
 obtain⟨R,hR⟩:=zN (iD ⟨sg,⟨2,a,b,c,P.data.toList⟩⟩ ⟨v1,v2,v3,v4.data.toList⟩);have HR:Hd (R=if sg=0 then N else if sg=1 then decide (0<=C) else if sg=2 then decide (C<=0) else if sg=3 then decide (0<C) else if sg=4 then decide (C<0) else if sg=5 then F && L else if sg=6 then(F && (decide (2<1) || decide (v1=a))) && (decide (2<2) || decide (v2=b)) else F):=by
  show R=_;rw[<-hR];unfold iD;rw[hN,hC,hL,hF]
 rw[hR];have dE:=ae hs;clear hN hC hL hx hF hR hp hv hs;go_enter func98,ntmps98;go_wp2_with (go_at_call 124;refine(CP.o _).mono ?_);rintro e w1 ⟨rfl,hg⟩;obtain⟨A,hA⟩:=zN (w.heap.size);have HT:Hd (TR A sg 2 a b c P Q w1):=by
  refine TR.grow (w:=(w.alloc (.cells #[.int .i64 sg,.int .i64 2,.int .i64 a,.int .i64 b,.int .i64 c,.string P,.string Q] 168)).alloc (.cells #[.int .i64 v1,.int .i64 v2,.int .i64 v3,.string v4,.string v5] 98)) ?_ hg;unfold TR;rw[<-hA,Lib.alloc_old _ _ _ (by simp)];exact heap_alloc_new w _
 have HV:Hd (St (A+1) v1 v2 v3 v4 v5 w1):=by
  refine St.grow ?_ hg;refine l9 (t:=98) ?_;rw[<-hA];exact F6 w _ _
 have HG:=ae (ag (aj (aj (ak w none) _) _) hg)
 try rw[hA]
 clear hA hg;obtain⟨t0,t1,t2,t3,t4,t5,t6⟩:=HT.o.cells;obtain⟨s1,s2,s3,s4,s5⟩:=HV.o;go_wp2_with (first|(go_at_call 125;refine(CN.o _).mono ?_));rintro e w2 ⟨rfl,hg⟩;replace HT:=ae (HT.o.grow hg);replace HV:=ae (HV.o.grow hg);replace HG:=ae (ag HG.o hg);clear hg t0 t1 t2 t3 t4 t5 t6 s1 s2 s3 s4 s5;obtain⟨t0,t1,t2,t3,t4,t5,t6⟩:=HT.o.cells;obtain⟨s1,s2,s3,s4,s5⟩:=HV.o;obtain⟨fb,hfb⟩:=zN (decide (x<=0));have pI:=ae hfb;clear hfb;go_wp2_with (fail)
 go_region_held3 (fun w'=>w'.cell? ⟨A,1,none⟩=some (.int .i64 2)/\w'.cell? ⟨A,2,none⟩=some (.int .i64 a)/\w'.cell? ⟨A,3,none⟩=some (.int .i64 b)/\w'.cell? ⟨A,4,none⟩=some (.int .i64 c)/\w'.cell? ⟨A,5,none⟩=some (.string P)/\w'.cell? ⟨A,6,none⟩=some (.string Q)/\w'.cell? ⟨A+1,0,none⟩=some (.int .i64 v1)/\w'.cell? ⟨A+1,1,none⟩=some (.int .i64 v2)/\w'.cell? ⟨A+1,2,none⟩=some (.int .i64 v3)/\w'.cell? ⟨A+1,3,none⟩=some (.string v4)/\w'.cell? ⟨A+1,4,none⟩=some (.string v5)) (first|(simp only[F5];exact⟨t1,t2,t3,t4,t5,t6,s1,s2,s3,s4,s5⟩)|exact J5 (by assumption) (by assumption)) (first|(go_at_call 126;refine(CF.o _).mono ?_;rintro e w3 ⟨rfl,hg3⟩)|(go_at_call 44;refine(CC.o _).mono ?_;rintro e w4 ⟨rfl,hg4⟩))
 have hg5:=ag (bZ hg3) hg4;replace HT:=ae (HT.o.grow hg5);replace HV:=ae (HV.o.grow hg5);replace HG:=ae (ag HG.o hg5);clear hg3 hg4 hg5 t0 t1 t2 t3 t4 t5 t6 s1 s2 s3 s4 s5 pI;have yh:=oG.o;subst yh
 cases hxb:decide (x<=0) with
 | true =>
  rw[hxb]at HR;clear hxb oG;have hss:sg=0\/sg=1\/sg=2\/sg=3\/sg=4\/sg=5\/sg=6\/sg=7:=by have:=dE.o;omega
  clear dE;obtain⟨t0,t1,t2,t3,t4,t5,t6⟩:=HT.o.cells;obtain⟨s1,s2,s3,s4,s5⟩:=HV.o
  rcases hss with rfl|rfl|rfl|rfl|rfl|rfl|rfl|rfl
  ·go_wp2
   all_goals go_ret
   all_goals (refine⟨aJ ?_,HG.o⟩;have hr:=HR.o;clear HR;simp_all<;>rfl)
  ·go_wp2
   all_goals go_ret
   all_goals (refine⟨aJ ?_,HG.o⟩;have hr:=HR.o;clear HR;simp_all<;>rfl)
  ·go_wp2
   all_goals go_ret
   all_goals (refine⟨aJ ?_,HG.o⟩;have hr:=HR.o;clear HR;simp_all<;>rfl)
  ·go_wp2
   all_goals go_ret
   all_goals (refine⟨aJ ?_,HG.o⟩;have hr:=HR.o;clear HR;simp_all<;>rfl)
  ·go_wp2
   all_goals go_ret
   all_goals (refine⟨aJ ?_,HG.o⟩;have hr:=HR.o;clear HR;simp_all<;>rfl)
  ·go_wp2_with (go_at_call 127;refine(CL.o _).mono ?_);rintro e w5 rfl hg5;replace HG:=ae (ag HG.o hg5);clear hg5;go_wp2
   all_goals go_ret
   all_goals (refine⟨aJ ?_,HG.o⟩;have hr:=HR.o;clear HR;simp_all<;>rfl)
  ·go_wp2
   all_goals go_ret
   all_goals (refine⟨aJ ?_,HG.o⟩;have hr:=HR.o;clear HR;simp_all<;>rfl)
  ·go_wp2
   all_goals go_ret
   all_goals (refine⟨aJ ?_,HG.o⟩;have hr:=HR.o;clear HR;simp_all<;>rfl)
 | false =>
  rw[hxb]at HR;clear hxb oG;have hss:sg=0\/sg=1\/sg=2\/sg=3\/sg=4\/sg=5\/sg=6\/sg=7:=by have:=dE.o;omega
  clear dE;obtain⟨t0,t1,t2,t3,t4,t5,t6⟩:=HT.o.cells;obtain⟨s1,s2,s3,s4,s5⟩:=HV.o
  rcases hss with rfl|rfl|rfl|rfl|rfl|rfl|rfl|rfl
  ·go_wp2
   all_goals go_ret
   all_goals (refine⟨aJ ?_,HG.o⟩;have hr:=HR.o;clear HR;simp_all<;>rfl)
  ·go_wp2
   all_goals go_ret
   all_goals (refine⟨aJ ?_,HG.o⟩;have hr:=HR.o;clear HR;simp_all<;>rfl)
  ·go_wp2
   all_goals go_ret
   all_goals (refine⟨aJ ?_,HG.o⟩;have hr:=HR.o;clear HR;simp_all<;>rfl)
  ·go_wp2
   all_goals go_ret
   all_goals (refine⟨aJ ?_,HG.o⟩;have hr:=HR.o;clear HR;simp_all<;>rfl)
  ·go_wp2
   all_goals go_ret
   all_goals (refine⟨aJ ?_,HG.o⟩;have hr:=HR.o;clear HR;simp_all<;>rfl)
  ·go_wp2
   all_goals go_ret
   all_goals (refine⟨aJ ?_,HG.o⟩;have hr:=HR.o;clear HR;simp_all<;>rfl)
  ·go_wp2
   all_goals go_ret
   all_goals (refine⟨aJ ?_,HG.o⟩;have hr:=HR.o;clear HR;simp_all<;>rfl)
  ·go_wp2
   all_goals go_ret
   all_goals (refine⟨aJ ?_,HG.o⟩;have hr:=HR.o;clear HR;simp_all<;>rfl)
theorem aa6(sg:Int)(hs:0<=sg/\sg<=7)(a b c v1 v2 v3:Int)(P Q v4 v5:ByteArray)(w:World)(hp:P.size<=1048576)(hv:v4.size<=1048576) :
  Calls prog 98 #[.agg #[.int .i64 sg,.int .i64 3,.int .i64 a,.int .i64 b,.int .i64 c,.string P,.string Q],.agg #[.int .i64 v1,.int .i64 v2,.int .i64 v3,.string v4,.string v5]] w fun e w'=>e=.returned (.bool (iD ⟨sg,⟨3,a,b,c,P.data.toList⟩⟩ ⟨v1,v2,v3,v4.data.toList⟩))/\w.grownBy w' none:=by
 obtain⟨N,hN⟩:=zN (iC ⟨3,a,b,c,P.data.toList⟩ ⟨v1,v2,v3,v4.data.toList⟩);obtain⟨C,hC⟩:=zN (eQ ⟨3,a,b,c,P.data.toList⟩ ⟨v1,v2,v3,v4.data.toList⟩);obtain⟨L,hL⟩:=zN (mJ ⟨3,a,b,c,P.data.toList⟩ ⟨v1,v2,v3,v4.data.toList⟩);obtain⟨x,hx⟩:=zN (aC (bF ⟨3,a,b,c,P.data.toList⟩) ⟨v1,v2,v3,v4.data.toList⟩);have CN:Hd (∀w,Calls prog 125 #[.agg #[.int .i64 3,.int .i64 a,.int .i64 b,.int .i64 c,.string P,.string Q],.agg #[.int .i64 v1,.int .i64 v2,.int .i64 v3,.string v4,.string v5]] w fun e w'=>e=.returned (.bool N)/\w.grownBy w' none):=fun w=>by rw[<-hN];exact Rt a b c v1 v2 v3 P Q v4 v5 w hp hv
 have CP:Hd (∀w,Calls prog 124 #[.agg #[.int .i64 3,.int .i64 a,.int .i64 b,.int .i64 c,.string P,.string Q],.agg #[.int .i64 v1,.int .i64 v2,.int .i64 v3,.string v4,.string v5]] w fun e w'=>e=.returned (.int .i64 C)/\w.grownBy w' none):=fun w=>by rw[<-hC];exact aaU a b c v1 v2 v3 P Q v4 v5 w hp hv
 have CL:Hd (∀w,Calls prog 127 #[.agg #[.int .i64 3,.int .i64 a,.int .i64 b,.int .i64 c,.string P,.string Q],.agg #[.int .i64 v1,.int .i64 v2,.int .i64 v3,.string v4,.string v5]] w fun e w'=>e=.returned (.bool L)/\w.grownBy w' none):=fun w=>by rw[<-hL];exact aaY a b c v1 v2 v3 P Q v4 v5 w
 have CF:=ae (aa2 a b c P Q);have CC:Hd (∀w,Calls prog 44 #[.agg #[.int .i64 a,.int .i64 b,.int .i64 c,.string P,.string ⟨#[]⟩],.agg #[.int .i64 v1,.int .i64 v2,.int .i64 v3,.string v4,.string v5]] w fun e w'=>e=.returned (.int .i64 x)/\w.grownBy w' none):=fun w=>by
  rw[<-hx];refine(qY a b c v1 v2 v3 P ⟨#[]⟩ v4 v5 w (hp) hv).mono ?_;rintro e w' ⟨rfl,h⟩;exact⟨rfl,pW h⟩
 obtain⟨F,hF⟩:=zN (pz ⟨3,a,b,c,P.data.toList⟩ ⟨v1,v2,v3,v4.data.toList⟩);have oG:Hd (F=decide (x<=0)):=by show F=_;rw[<-hF,<-hx];rfl
 obtain⟨R,hR⟩:=zN (iD ⟨sg,⟨3,a,b,c,P.data.toList⟩⟩ ⟨v1,v2,v3,v4.data.toList⟩);have HR:Hd (R=if sg=0 then N else if sg=1 then decide (0<=C) else if sg=2 then decide (C<=0) else if sg=3 then decide (0<C) else if sg=4 then decide (C<0) else if sg=5 then F && L else if sg=6 then(F && (decide (3<1) || decide (v1=a))) && (decide (3<2) || decide (v2=b)) else F):=by
  show R=_;rw[<-hR];unfold iD;rw[hN,hC,hL,hF]
 rw[hR];have dE:=ae hs;clear hN hC hL hx hF hR hp hv hs;go_enter func98,ntmps98;go_wp2_with (go_at_call 124;refine(CP.o _).mono ?_);rintro e w1 ⟨rfl,hg⟩;obtain⟨A,hA⟩:=zN (w.heap.size);have HT:Hd (TR A sg 3 a b c P Q w1):=by
  refine TR.grow (w:=(w.alloc (.cells #[.int .i64 sg,.int .i64 3,.int .i64 a,.int .i64 b,.int .i64 c,.string P,.string Q] 168)).alloc (.cells #[.int .i64 v1,.int .i64 v2,.int .i64 v3,.string v4,.string v5] 98)) ?_ hg;unfold TR;rw[<-hA,Lib.alloc_old _ _ _ (by simp)];exact heap_alloc_new w _
 have HV:Hd (St (A+1) v1 v2 v3 v4 v5 w1):=by
  refine St.grow ?_ hg;refine l9 (t:=98) ?_;rw[<-hA];exact F6 w _ _
 have HG:=ae (ag (aj (aj (ak w none) _) _) hg)
 try rw[hA]
 clear hA hg;obtain⟨t0,t1,t2,t3,t4,t5,t6⟩:=HT.o.cells;obtain⟨s1,s2,s3,s4,s5⟩:=HV.o;go_wp2_with (first|(go_at_call 125;refine(CN.o _).mono ?_));rintro e w2 ⟨rfl,hg⟩;replace HT:=ae (HT.o.grow hg);replace HV:=ae (HV.o.grow hg);replace HG:=ae (ag HG.o hg);clear hg t0 t1 t2 t3 t4 t5 t6 s1 s2 s3 s4 s5;obtain⟨t0,t1,t2,t3,t4,t5,t6⟩:=HT.o.cells;obtain⟨s1,s2,s3,s4,s5⟩:=HV.o;obtain⟨fb,hfb⟩:=zN (decide (x<=0));have pI:=ae hfb;clear hfb;go_wp2_with (fail)
 go_region_held3 (fun w'=>w'.cell? ⟨A,1,none⟩=some (.int .i64 3)/\w'.cell? ⟨A,2,none⟩=some (.int .i64 a)/\w'.cell? ⟨A,3,none⟩=some (.int .i64 b)/\w'.cell? ⟨A,4,none⟩=some (.int .i64 c)/\w'.cell? ⟨A,5,none⟩=some (.string P)/\w'.cell? ⟨A,6,none⟩=some (.string Q)/\w'.cell? ⟨A+1,0,none⟩=some (.int .i64 v1)/\w'.cell? ⟨A+1,1,none⟩=some (.int .i64 v2)/\w'.cell? ⟨A+1,2,none⟩=some (.int .i64 v3)/\w'.cell? ⟨A+1,3,none⟩=some (.string v4)/\w'.cell? ⟨A+1,4,none⟩=some (.string v5)) (first|(simp only[F5];exact⟨t1,t2,t3,t4,t5,t6,s1,s2,s3,s4,s5⟩)|exact J5 (by assumption) (by assumption)) (first|(go_at_call 126;refine(CF.o _).mono ?_;rintro e w3 ⟨rfl,hg3⟩)|(go_at_call 44;refine(CC.o _).mono ?_;rintro e w4 ⟨rfl,hg4⟩))
 have hg5:=ag (bZ hg3) hg4;replace HT:=ae (HT.o.grow hg5);replace HV:=ae (HV.o.grow hg5);replace HG:=ae (ag HG.o hg5);clear hg3 hg4 hg5 t0 t1 t2 t3 t4 t5 t6 s1 s2 s3 s4 s5 pI;have yh:=oG.o;subst yh
 cases hxb:decide (x<=0) with
 | true =>
  rw[hxb]at HR;clear hxb oG;have hss:sg=0\/sg=1\/sg=2\/sg=3\/sg=4\/sg=5\/sg=6\/sg=7:=by have:=dE.o;omega
  clear dE;obtain⟨t0,t1,t2,t3,t4,t5,t6⟩:=HT.o.cells;obtain⟨s1,s2,s3,s4,s5⟩:=HV.o
  rcases hss with rfl|rfl|rfl|rfl|rfl|rfl|rfl|rfl
  ·go_wp2
   all_goals go_ret
   all_goals (refine⟨aJ ?_,HG.o⟩;have hr:=HR.o;clear HR;simp_all<;>rfl)
  ·go_wp2
   all_goals go_ret
   all_goals (refine⟨aJ ?_,HG.o⟩;have hr:=HR.o;clear HR;simp_all<;>rfl)
  ·go_wp2
   all_goals go_ret
   all_goals (refine⟨aJ ?_,HG.o⟩;have hr:=HR.o;clear HR;simp_all<;>rfl)
  ·go_wp2
   all_goals go_ret
   all_goals (refine⟨aJ ?_,HG.o⟩;have hr:=HR.o;clear HR;simp_all<;>rfl)
  ·go_wp2
   all_goals go_ret
   all_goals (refine⟨aJ ?_,HG.o⟩;have hr:=HR.o;clear HR;simp_all<;>rfl)
  ·go_wp2_with (go_at_call 127;refine(CL.o _).mono ?_);rintro e w5 rfl hg5;replace HG:=ae (ag HG.o hg5);clear hg5;go_wp2
   all_goals go_ret
   all_goals (refine⟨aJ ?_,HG.o⟩;have hr:=HR.o;clear HR;simp_all<;>rfl)
  ·go_wp2
   all_goals go_ret
   all_goals (refine⟨aJ ?_,HG.o⟩;have hr:=HR.o;clear HR;simp_all<;>rfl)
  ·go_wp2
   all_goals go_ret
   all_goals (refine⟨aJ ?_,HG.o⟩;have hr:=HR.o;clear HR;simp_all<;>rfl)
 | false =>
  rw[hxb]at HR;clear hxb oG;have hss:sg=0\/sg=1\/sg=2\/sg=3\/sg=4\/sg=5\/sg=6\/sg=7:=by have:=dE.o;omega
  clear dE;obtain⟨t0,t1,t2,t3,t4,t5,t6⟩:=HT.o.cells;obtain⟨s1,s2,s3,s4,s5⟩:=HV.o
  rcases hss with rfl|rfl|rfl|rfl|rfl|rfl|rfl|rfl
  ·go_wp2
   all_goals go_ret
   all_goals (refine⟨aJ ?_,HG.o⟩;have hr:=HR.o;clear HR;simp_all<;>rfl)
  ·go_wp2
   all_goals go_ret
   all_goals (refine⟨aJ ?_,HG.o⟩;have hr:=HR.o;clear HR;simp_all<;>rfl)
  ·go_wp2
   all_goals go_ret
   all_goals (refine⟨aJ ?_,HG.o⟩;have hr:=HR.o;clear HR;simp_all<;>rfl)
  ·go_wp2
   all_goals go_ret
   all_goals (refine⟨aJ ?_,HG.o⟩;have hr:=HR.o;clear HR;simp_all<;>rfl)
  ·go_wp2
   all_goals go_ret
   all_goals (refine⟨aJ ?_,HG.o⟩;have hr:=HR.o;clear HR;simp_all<;>rfl)
  ·go_wp2
   all_goals go_ret
   all_goals (refine⟨aJ ?_,HG.o⟩;have hr:=HR.o;clear HR;simp_all<;>rfl)
  ·go_wp2
   all_goals go_ret
   all_goals (refine⟨aJ ?_,HG.o⟩;have hr:=HR.o;clear HR;simp_all<;>rfl)
  ·go_wp2
   all_goals go_ret
   all_goals (refine⟨aJ ?_,HG.o⟩;have hr:=HR.o;clear HR;simp_all<;>rfl)
end Go.Proofs.YteciokcdpadmpaaGreatDoor
