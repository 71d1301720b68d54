import Derived.Test.YtapodndfpecglaaGreatDoorK17
import Derived.Test.YtapodndfpecglaaGreatDoorK14
set_option linter.all false
set_option maxRecDepth 100000
set_option maxHeartbeats 0
open Go.Proofs.Tryz
namespace Go.Proofs.YtapodndfpecglaaGreatDoor
open Go.RowKit
def PR(A:Nat)(n a b c:Int)(P Q:ByteArray)(w:World):Prop:=w.heap[A]?=some (.cells #[.int .i64 n,.int .i64 a,.int .i64 b,.int .i64 c,.string P,.string Q] 139 (0,0))
theorem PR.cells{A:Nat}{n a b c:Int}{P Q:ByteArray}{w:World}(h:PR A n a b c P Q w):w.cell? ⟨A,0,none⟩=some (.int .i64 n)/\w.cell? ⟨A,1,none⟩=some (.int .i64 a)/\w.cell? ⟨A,2,none⟩=some (.int .i64 b)/\w.cell? ⟨A,3,none⟩=some (.int .i64 c)/\w.cell? ⟨A,4,none⟩=some (.string P)/\w.cell? ⟨A,5,none⟩=some (.string Q) :=
 ⟨by rw[ag h];rfl,by rw[ag h];rfl,by rw[ag h];rfl,by rw[ag h];rfl,by rw[ag h];rfl,by rw[ag h];rfl⟩
theorem abf{w x:World}{B:Nat}(h:w.grownBy x none)(hB:w.heap.size<=B){o:Nat}{v:Value}:w.grownBy (x.setCell ⟨B,o,none⟩ v) none:=by
 refine⟨h.os,h.tape,h.output,by simpa [World.setCell] using h.size,fun k hk hn=>?_⟩;rw[<-h.block k hk hn];exact heap_setCell_other x _ k v (by simp;omega)
theorem PR.grow{A:Nat}{n a b c:Int}{P Q:ByteArray}{w w':World}(h:PR A n a b c P Q w)(hg:w.grownBy w' none):PR A n a b c P Q w':=by
 unfold PR at h ⊢;rw[hg.block A ((aA h)) (by simp)];exact h
theorem QB(a b c v1 v2 v3:Int)(P Q v4 v5:ByteArray)(w:World) :
  Calls prog 101 #[.agg #[.int .i64 0,.int .i64 a,.int .i64 b,.int .i64 c,.string P,.string Q],.agg #[.int .i64 v1,.int .i64 v2,.int .i64 v3,.string v4,.string v5]] w fun e w'=>e=.returned (.bool (iF ⟨0,a,b,c,P.data.toList⟩ ⟨v1,v2,v3,v4.data.toList⟩))/\w.grownBy w' none:=by
 go_enter func101,ntmps101;go_wp2
 all_goals go_ret
 all_goals (refine⟨bn ?_,au (au (ak w none) _) _⟩;simp_all [iF]<;>rfl)
theorem QC(a b c v1 v2 v3:Int)(P Q v4 v5:ByteArray)(w:World) :
  Calls prog 101 #[.agg #[.int .i64 1,.int .i64 a,.int .i64 b,.int .i64 c,.string P,.string Q],.agg #[.int .i64 v1,.int .i64 v2,.int .i64 v3,.string v4,.string v5]] w fun e w'=>e=.returned (.bool (iF ⟨1,a,b,c,P.data.toList⟩ ⟨v1,v2,v3,v4.data.toList⟩))/\w.grownBy w' none:=by
 go_enter func101,ntmps101;go_wp2
 all_goals go_ret
 all_goals (refine⟨bn ?_,au (au (ak w none) _) _⟩;simp_all [iF]<;>rfl)
theorem QE(a b c v1 v2 v3:Int)(P Q v4 v5:ByteArray)(w:World) :
  Calls prog 101 #[.agg #[.int .i64 2,.int .i64 a,.int .i64 b,.int .i64 c,.string P,.string Q],.agg #[.int .i64 v1,.int .i64 v2,.int .i64 v3,.string v4,.string v5]] w fun e w'=>e=.returned (.bool (iF ⟨2,a,b,c,P.data.toList⟩ ⟨v1,v2,v3,v4.data.toList⟩))/\w.grownBy w' none:=by
 go_enter func101,ntmps101;go_wp2
 all_goals go_ret
 all_goals (refine⟨bn ?_,au (au (ak w none) _) _⟩;simp_all [iF]<;>rfl)
theorem QF(a b c v1 v2 v3:Int)(P Q v4 v5:ByteArray)(w:World)(hp:P.size<=1048576)(hv:v4.size<=1048576) :
  Calls prog 101 #[.agg #[.int .i64 3,.int .i64 a,.int .i64 b,.int .i64 c,.string P,.string Q],.agg #[.int .i64 v1,.int .i64 v2,.int .i64 v3,.string v4,.string v5]] w fun e w'=>e=.returned (.bool (iF ⟨3,a,b,c,P.data.toList⟩ ⟨v1,v2,v3,v4.data.toList⟩))/\w.grownBy w' none:=by
 obtain⟨x,hx⟩:=zN (aB ⟨a,b,c,P.data.toList⟩ ⟨v1,v2,v3,v4.data.toList⟩);have HR:Hd (iF ⟨3,a,b,c,P.data.toList⟩ ⟨v1,v2,v3,v4.data.toList⟩=decide (x=0)):=by show _=_;rw[<-hx];rfl
 have CC:Hd (∀w,Calls prog 45 #[.agg #[.int .i64 a,.int .i64 b,.int .i64 c,.string P,.string Q],.agg #[.int .i64 v1,.int .i64 v2,.int .i64 v3,.string v4,.string v5]] w fun e w'=>e=.returned (.int .i64 x)/\w.grownBy w' none):=fun w=>by
  rw[<-hx];refine(Aw a b c v1 v2 v3 P Q v4 v5 w hp hv).mono ?_;rintro e w' ⟨rfl,h⟩;exact⟨rfl,Au h⟩
 obtain⟨R,hR⟩:=zN (iF ⟨3,a,b,c,P.data.toList⟩ ⟨v1,v2,v3,v4.data.toList⟩);rw[hR]at HR ⊢;clear hx hp hv hR;go_enter func101,ntmps101;go_wp2_with (go_at_call 45;refine(CC.o _).mono ?_);rintro e w1 ⟨rfl,hg⟩;have HG:=ae (ah (au (au (ak w none) _) _) hg);clear hg;go_wp2;go_ret;exact⟨bn (by rw[HR.o];rfl),HG.o⟩
theorem EL(k:Nat)(m a b c v1 v2 v3:Int)(P Q v4 v5:ByteArray)(w:World)(hm:iF ⟨k,a,b,c,P.data.toList⟩ ⟨v1,v2,v3,v4.data.toList⟩=false->¬m=0/\¬k=0)(CN:Hd (∀w,Calls prog 101 #[.agg #[.int .i64 m,.int .i64 a,.int .i64 b,.int .i64 c,.string P,.string Q],.agg #[.int .i64 v1,.int .i64 v2,.int .i64 v3,.string v4,.string v5]] w fun e w'=>e=.returned (.bool (iF ⟨k,a,b,c,P.data.toList⟩ ⟨v1,v2,v3,v4.data.toList⟩))/\w.grownBy w' none))(hp:P.size<=1048576)(hv:v4.size<=1048576) :
  Calls prog 100 #[.agg #[.int .i64 m,.int .i64 a,.int .i64 b,.int .i64 c,.string P,.string Q],.agg #[.int .i64 v1,.int .i64 v2,.int .i64 v3,.string v4,.string v5]] w fun e w'=>e=.returned (.int .i64 (gQ ⟨k,a,b,c,P.data.toList⟩ ⟨v1,v2,v3,v4.data.toList⟩))/\w.grownBy w' none:=by
 obtain⟨N,hN⟩:=zN (iF ⟨k,a,b,c,P.data.toList⟩ ⟨v1,v2,v3,v4.data.toList⟩);obtain⟨x,hx⟩:=zN (aB ⟨v1,v2,v3,v4.data.toList⟩ (yX ⟨k,a,b,c,P.data.toList⟩));have HR:Hd (gQ ⟨k,a,b,c,P.data.toList⟩ ⟨v1,v2,v3,v4.data.toList⟩=if(N || decide (k=0))=true then 0 else x):=by show _=_;unfold gQ;rw[hN,hx]
 rw[hN]at CN hm;have CC:Hd (∀w,Calls prog 45 #[.agg #[.int .i64 v1,.int .i64 v2,.int .i64 v3,.string v4,.string v5],.agg #[.int .i64 a,.int .i64 b,.int .i64 c,.string P,.string Q]] w fun e w'=>e=.returned (.int .i64 x)/\w.grownBy w' none):=fun w=>by
  rw[<-hx];refine(Aw v1 v2 v3 a b c v4 v5 P Q w hv hp).mono ?_;rintro e w' ⟨rfl,h⟩;exact⟨rfl,Au h⟩
 obtain⟨R,hR⟩:=zN (gQ ⟨k,a,b,c,P.data.toList⟩ ⟨v1,v2,v3,v4.data.toList⟩);rw[hR]at HR ⊢;have HM:=ae hm;clear hN hx hp hv hR hm;go_enter func100,ntmps100;go_wp2_with (go_at_call 101;refine(CN.o _).mono ?_);rintro e w1 ⟨rfl,hg⟩;obtain⟨A,hA⟩:=zN (w.heap.size);have HP:Hd (PR A m a b c P Q w1):=by
  refine PR.grow (w:=(w.alloc (.cells #[.int .i64 m,.int .i64 a,.int .i64 b,.int .i64 c,.string P,.string Q] 139)).alloc (.cells #[.int .i64 v1,.int .i64 v2,.int .i64 v3,.string v4,.string v5] 97)) ?_ hg;unfold PR;rw[<-hA,Lib.alloc_old _ _ _ (by simp)];exact heap_alloc_new w _
 have HV:Hd (St (A+1) v1 v2 v3 v4 v5 w1):=by
  refine St.grow ?_ hg;refine vX (t:=97) ?_;have:=heap_alloc_new (w.alloc (.cells #[.int .i64 m,.int .i64 a,.int .i64 b,.int .i64 c,.string P,.string Q] 139)) (.cells #[.int .i64 v1,.int .i64 v2,.int .i64 v3,.string v4,.string v5] 97);rw[<-hA];simpa using this
 have HG:=ae (ah (au (au (ak w none) _) _) hg)
 try rw[hA]
 clear hA hg;obtain⟨e0,e1,e2,e3,e4,e5⟩:=HP.o.cells;obtain⟨s1,s2,s3,s4,s5⟩:=HV.o
 cases N with
 | true =>
  go_wp2;go_ret;exact⟨bD (by rw[HR.o];rfl),HG.o⟩
 | false =>
  have hm0:(m == 0)=false:=by simp[(HM.o (by trivial)).1]
  go_wp2_with (go_at_call 45;refine(CC.o _).mono ?_;rintro e w2 ⟨rfl,hg2⟩);go_ret;exact⟨bD (by rw[HR.o];simp[(HM.o (by trivial)).2]),ah HG.o hg2⟩
theorem abg(a b c v1 v2 v3:Int)(P Q v4 v5:ByteArray)(w:World)(hp:P.size<=1048576)(hv:v4.size<=1048576) :
  Calls prog 100 #[.agg #[.int .i64 0,.int .i64 a,.int .i64 b,.int .i64 c,.string P,.string Q],.agg #[.int .i64 v1,.int .i64 v2,.int .i64 v3,.string v4,.string v5]] w fun e w'=>e=.returned (.int .i64 (gQ ⟨0,a,b,c,P.data.toList⟩ ⟨v1,v2,v3,v4.data.toList⟩))/\w.grownBy w' none :=
 EL 0 0 a b c v1 v2 v3 P Q v4 v5 w (fun h=>by cases h) (ae fun w=>QB a b c v1 v2 v3 P Q v4 v5 w) hp hv
theorem abh(a b c v1 v2 v3:Int)(P Q v4 v5:ByteArray)(w:World)(hp:P.size<=1048576)(hv:v4.size<=1048576) :
  Calls prog 100 #[.agg #[.int .i64 1,.int .i64 a,.int .i64 b,.int .i64 c,.string P,.string Q],.agg #[.int .i64 v1,.int .i64 v2,.int .i64 v3,.string v4,.string v5]] w fun e w'=>e=.returned (.int .i64 (gQ ⟨1,a,b,c,P.data.toList⟩ ⟨v1,v2,v3,v4.data.toList⟩))/\w.grownBy w' none :=
 EL 1 1 a b c v1 v2 v3 P Q v4 v5 w (fun _=>by decide) (ae fun w=>QC a b c v1 v2 v3 P Q v4 v5 w) hp hv
theorem abj(a b c v1 v2 v3:Int)(P Q v4 v5:ByteArray)(w:World)(hp:P.size<=1048576)(hv:v4.size<=1048576) :
  Calls prog 100 #[.agg #[.int .i64 2,.int .i64 a,.int .i64 b,.int .i64 c,.string P,.string Q],.agg #[.int .i64 v1,.int .i64 v2,.int .i64 v3,.string v4,.string v5]] w fun e w'=>e=.returned (.int .i64 (gQ ⟨2,a,b,c,P.data.toList⟩ ⟨v1,v2,v3,v4.data.toList⟩))/\w.grownBy w' none :=
 EL 2 2 a b c v1 v2 v3 P Q v4 v5 w (fun _=>by decide) (ae fun w=>QE a b c v1 v2 v3 P Q v4 v5 w) hp hv
theorem abk(a b c v1 v2 v3:Int)(P Q v4 v5:ByteArray)(w:World)(hp:P.size<=1048576)(hv:v4.size<=1048576) :
  Calls prog 100 #[.agg #[.int .i64 3,.int .i64 a,.int .i64 b,.int .i64 c,.string P,.string Q],.agg #[.int .i64 v1,.int .i64 v2,.int .i64 v3,.string v4,.string v5]] w fun e w'=>e=.returned (.int .i64 (gQ ⟨3,a,b,c,P.data.toList⟩ ⟨v1,v2,v3,v4.data.toList⟩))/\w.grownBy w' none :=
 EL 3 3 a b c v1 v2 v3 P Q v4 v5 w (fun _=>by decide) (ae fun w=>QF a b c v1 v2 v3 P Q v4 v5 w hp hv) hp hv
theorem abl(a b c v1 v2 v3:Int)(P Q v4 v5:ByteArray)(w:World) :
  Calls prog 103 #[.agg #[.int .i64 0,.int .i64 a,.int .i64 b,.int .i64 c,.string P,.string Q],.agg #[.int .i64 v1,.int .i64 v2,.int .i64 v3,.string v4,.string v5]] w fun e w'=>e=.returned (.bool (mr ⟨0,a,b,c,P.data.toList⟩ ⟨v1,v2,v3,v4.data.toList⟩))/\w.grownBy w' none:=by
 go_enter func103,ntmps103;go_wp2
 all_goals go_ret
 all_goals (refine⟨bn ?_,au (au (ak w none) _) _⟩;simp_all [mr]<;>first|omega|rfl|(rw[Bool.eq_iff_iff];simp;omega))
theorem abm(a b c v1 v2 v3:Int)(P Q v4 v5:ByteArray)(w:World) :
  Calls prog 103 #[.agg #[.int .i64 1,.int .i64 a,.int .i64 b,.int .i64 c,.string P,.string Q],.agg #[.int .i64 v1,.int .i64 v2,.int .i64 v3,.string v4,.string v5]] w fun e w'=>e=.returned (.bool (mr ⟨1,a,b,c,P.data.toList⟩ ⟨v1,v2,v3,v4.data.toList⟩))/\w.grownBy w' none:=by
 go_enter func103,ntmps103;go_wp2
 all_goals go_ret
 all_goals (refine⟨bn ?_,au (au (ak w none) _) _⟩;simp_all [mr]<;>first|omega|rfl|(rw[Bool.eq_iff_iff];simp;omega))
theorem abn(a b c v1 v2 v3:Int)(P Q v4 v5:ByteArray)(w:World) :
  Calls prog 103 #[.agg #[.int .i64 2,.int .i64 a,.int .i64 b,.int .i64 c,.string P,.string Q],.agg #[.int .i64 v1,.int .i64 v2,.int .i64 v3,.string v4,.string v5]] w fun e w'=>e=.returned (.bool (mr ⟨2,a,b,c,P.data.toList⟩ ⟨v1,v2,v3,v4.data.toList⟩))/\w.grownBy w' none:=by
 go_enter func103,ntmps103;go_wp2
 all_goals go_ret
 all_goals (refine⟨bn ?_,au (au (ak w none) _) _⟩;simp_all [mr]<;>first|omega|rfl|(rw[Bool.eq_iff_iff];simp;omega))
theorem abo(a b c v1 v2 v3:Int)(P Q v4 v5:ByteArray)(w:World) :
  Calls prog 103 #[.agg #[.int .i64 3,.int .i64 a,.int .i64 b,.int .i64 c,.string P,.string Q],.agg #[.int .i64 v1,.int .i64 v2,.int .i64 v3,.string v4,.string v5]] w fun e w'=>e=.returned (.bool (mr ⟨3,a,b,c,P.data.toList⟩ ⟨v1,v2,v3,v4.data.toList⟩))/\w.grownBy w' none:=by
 go_enter func103,ntmps103;go_wp2
 all_goals go_ret
 all_goals (refine⟨bn ?_,au (au (ak w none) _) _⟩;simp_all [mr]<;>first|omega|rfl|(rw[Bool.eq_iff_iff];simp;omega))
theorem EM(m a b c:Int)(P Q X:ByteArray)(w:World)(hx:(m<3/\X=⟨#[48]⟩)\/(¬m<3/\X=P)) :
  Calls prog 102 #[.agg #[.int .i64 m,.int .i64 a,.int .i64 b,.int .i64 c,.string P,.string Q]] w fun e w'=>e=.returned (.agg #[.int .i64 a,.int .i64 b,.int .i64 c,.string X,.string ⟨#[]⟩])/\w.grownBy w' none:=by
 have HX:=ae hx;clear hx;have CP:=ae (YF a b c P Q);go_enter func102,ntmps102;go_wp2_with (go_at_call 127;refine(CP.o _).mono ?_)
 first|rintro e w1 rfl hg|rintro e w1 ⟨rfl,hg⟩
 obtain⟨A,hA⟩:=zN (w.heap.size);have HP:Hd (PR A m a b c P Q w1):=by
  refine PR.grow (w:=(w.alloc (.cells #[.int .i64 m,.int .i64 a,.int .i64 b,.int .i64 c,.string P,.string Q] 139)).alloc (.cells #[.int .i64 0,.int .i64 0,.int .i64 0,.string ⟨#[]⟩,.string ⟨#[]⟩] 97)) ?_ hg;unfold PR;rw[<-hA,Lib.alloc_old _ _ _ (by simp)];exact heap_alloc_new w _
 have HR:Hd (w1.heap[A+1]?=some (.cells #[.int .i64 0,.int .i64 0,.int .i64 0,.string ⟨#[]⟩,.string ⟨#[]⟩] 97 (0,0))):=by
  show _=_;have:=heap_alloc_new (w.alloc (.cells #[.int .i64 m,.int .i64 a,.int .i64 b,.int .i64 c,.string P,.string Q] 139)) (.cells #[.int .i64 0,.int .i64 0,.int .i64 0,.string ⟨#[]⟩,.string ⟨#[]⟩] 97);rw[hg.block (A+1) (by simp;omega) (by simp),<-hA];simpa using this
 have HG:=ae (ah (au (au (ak w none) _) _) hg);have HA1:Hd (w.heap.size<=A/\A+1<w1.heap.size):=by
  refine⟨by omega,?_⟩;have:=(aA HR.o);omega
 try rw[hA]
 clear hA hg;obtain⟨C,hC⟩:=zN (w1.heap.size);obtain⟨W,hW⟩:=zN (w1.alloc (.cells #[.int .i64 a,.int .i64 b,.int .i64 c,.string P,.string ⟨#[]⟩] 97));have hgW:w1.grownBy W none:=by rw[<-hW];exact au (ak w1 none) _
 have HPW:=ae (HP.o.grow hgW);have HRW:Hd (W.heap[A+1]?=some (.cells #[.int .i64 0,.int .i64 0,.int .i64 0,.string ⟨#[]⟩,.string ⟨#[]⟩] 97 (0,0))):=by show _=_;rw[hgW.block (A+1) HA1.o.2 (by simp)];exact HR.o
 have bT:Hd (W.heap[C]?=some (.cells #[.int .i64 a,.int .i64 b,.int .i64 c,.string P,.string ⟨#[]⟩] 97 (0,0))):=by show _=_;rw[<-hW,<-hC];exact heap_alloc_new w1 _
 have bM:=ae (ah HG.o hgW);have lX:Hd (w.heap.size<=A/\A+1<C):=by show _/\_;rw[<-hC];exact HA1.o
 clear hgW HP HR HG HA1;obtain⟨e0,e1,e2,e3,e4,e5⟩:=HPW.o.cells;have r0:W.cell? ⟨A+1,0,none⟩=some (.int .i64 0):=by rw[ag HRW.o];rfl
 have r1:W.cell? ⟨A+1,1,none⟩=some (.int .i64 0):=by rw[ag HRW.o];rfl
 have r2:W.cell? ⟨A+1,2,none⟩=some (.int .i64 0):=by rw[ag HRW.o];rfl
 have r3:W.cell? ⟨A+1,3,none⟩=some (.string ⟨#[]⟩):=by rw[ag HRW.o];rfl
 have r4:W.cell? ⟨A+1,4,none⟩=some (.string ⟨#[]⟩):=by rw[ag HRW.o];rfl
 have rf:=Lib.frozen_of_heap HRW.o;have c0:W.cell? ⟨C,0,none⟩=some (.int .i64 a):=by rw[ag bT.o];rfl
 have c1:W.cell? ⟨C,1,none⟩=some (.int .i64 b):=by rw[ag bT.o];rfl
 have c2:W.cell? ⟨C,2,none⟩=some (.int .i64 c):=by rw[ag bT.o];rfl
 have c3:W.cell? ⟨C,3,none⟩=some (.string P):=by rw[ag bT.o];rfl
 have c4:W.cell? ⟨C,4,none⟩=some (.string ⟨#[]⟩):=by rw[ag bT.o];rfl
 have cf:=Lib.frozen_of_heap bT.o;have hcc:=lX.o;have n1:¬(A+1=C):=by omega
 have n2:¬(C=A+1):=by omega
 have n3:¬(A=C):=by omega
 have n4:¬(C=A):=by omega
 clear hcc
 rcases HX.o with⟨hx,rfl⟩|⟨hx,rfl⟩
 all_goals (
  go_wp2;have hcc:=lX.o;have hrw:=HRW.o;refine bodyPost_ret (results_cell_row rfl _ _ (A+1) 97 #[.int .i64 a,.int .i64 b,.int .i64 c,.string _,.string ⟨#[]⟩] (0,0) _ rfl ?_ underlying97 rfl (by kernel_rfl)) rfl ⟨rfl,by repeat (first|refine abf ?_ (by omega)|exact bM.o)⟩;simp[World.setCell,Array.getElem?_modify,hrw,n2])
theorem abp(a b c:Int)(P Q:ByteArray)(w:World) :
  Calls prog 102 #[.agg #[.int .i64 0,.int .i64 a,.int .i64 b,.int .i64 c,.string P,.string Q]] w fun e w'=>e=.returned (.agg #[.int .i64 a,.int .i64 b,.int .i64 c,.string ⟨#[48]⟩,.string ⟨#[]⟩])/\w.grownBy w' none:=EM 0 a b c P Q _ w (Or.inl ⟨by decide,rfl⟩)
theorem abq(a b c:Int)(P Q:ByteArray)(w:World) :
  Calls prog 102 #[.agg #[.int .i64 1,.int .i64 a,.int .i64 b,.int .i64 c,.string P,.string Q]] w fun e w'=>e=.returned (.agg #[.int .i64 a,.int .i64 b,.int .i64 c,.string ⟨#[48]⟩,.string ⟨#[]⟩])/\w.grownBy w' none:=EM 1 a b c P Q _ w (Or.inl ⟨by decide,rfl⟩)
theorem abr(a b c:Int)(P Q:ByteArray)(w:World) :
  Calls prog 102 #[.agg #[.int .i64 2,.int .i64 a,.int .i64 b,.int .i64 c,.string P,.string Q]] w fun e w'=>e=.returned (.agg #[.int .i64 a,.int .i64 b,.int .i64 c,.string ⟨#[48]⟩,.string ⟨#[]⟩])/\w.grownBy w' none:=EM 2 a b c P Q _ w (Or.inl ⟨by decide,rfl⟩)
theorem abt(a b c:Int)(P Q:ByteArray)(w:World) :
  Calls prog 102 #[.agg #[.int .i64 3,.int .i64 a,.int .i64 b,.int .i64 c,.string P,.string Q]] w fun e w'=>e=.returned (.agg #[.int .i64 a,.int .i64 b,.int .i64 c,.string P,.string ⟨#[]⟩])/\w.grownBy w' none:=EM 3 a b c P Q _ w (Or.inr ⟨by decide,rfl⟩)
open Go.RowKit
theorem abu{p0 p1 p2 p3 p4 p5 p6 p7 p8 p9 p10:Addr}{c0 c1 c2 c3 c4 c5 c6 c7 c8 c9 c10:Value}{w w':World}(hg:w.grownBy w' none)(h:w.cell? p0=some c0/\w.cell? p1=some c1/\w.cell? p2=some c2/\w.cell? p3=some c3/\w.cell? p4=some c4/\w.cell? p5=some c5/\w.cell? p6=some c6/\w.cell? p7=some c7/\w.cell? p8=some c8/\w.cell? p9=some c9/\w.cell? p10=some c10):w'.cell? p0=some c0/\w'.cell? p1=some c1/\w'.cell? p2=some c2/\w'.cell? p3=some c3/\w'.cell? p4=some c4/\w'.cell? p5=some c5/\w'.cell? p6=some c6/\w'.cell? p7=some c7/\w'.cell? p8=some c8/\w'.cell? p9=some c9/\w'.cell? p10=some c10:=by
 obtain⟨h0,h1,h2,h3,h4,h5,h6,h7,h8,h9,h10⟩:=h;exact⟨hg.cell h0 (by simp),hg.cell h1 (by simp),hg.cell h2 (by simp),hg.cell h3 (by simp),hg.cell h4 (by simp),hg.cell h5 (by simp),hg.cell h6 (by simp),hg.cell h7 (by simp),hg.cell h8 (by simp),hg.cell h9 (by simp),hg.cell h10 (by simp)⟩
def TR(A:Nat)(sg n a b c:Int)(P Q:ByteArray)(w:World):Prop:=w.heap[A]?=some (.cells #[.int .i64 sg,.int .i64 n,.int .i64 a,.int .i64 b,.int .i64 c,.string P,.string Q] 141 (0,0))
theorem TR.cells{A:Nat}{sg n a b c:Int}{P Q:ByteArray}{w:World}(h:TR A sg n a b c P Q w):w.cell? ⟨A,0,none⟩=some (.int .i64 sg)/\w.cell? ⟨A,1,none⟩=some (.int .i64 n)/\w.cell? ⟨A,2,none⟩=some (.int .i64 a)/\w.cell? ⟨A,3,none⟩=some (.int .i64 b)/\w.cell? ⟨A,4,none⟩=some (.int .i64 c)/\w.cell? ⟨A,5,none⟩=some (.string P)/\w.cell? ⟨A,6,none⟩=some (.string Q) :=
 ⟨by rw[ag h];rfl,by rw[ag h];rfl,by rw[ag h];rfl,by rw[ag h];rfl,by rw[ag h];rfl,by rw[ag h];rfl,by rw[ag h];rfl⟩
theorem TR.grow{A:Nat}{sg n a b c:Int}{P Q:ByteArray}{w w':World}(h:TR A sg n a b c P Q w)(hg:w.grownBy w' none):TR A sg n a b c P Q w':=by
 unfold TR at h ⊢;rw[hg.block A ((aA h)) (by simp)];exact h
theorem QG(w:World)(p:Addr):w.drew.cell? p=w.cell? p:=rfl
theorem QH(w:World)(o1 o2:Obj):((w.alloc o1).alloc o2).heap[w.heap.size+1]?=some o2:=by
 have:=heap_alloc_new (w.alloc o1) o2;simpa using this
theorem abv(sg:Int)(hs:0<=sg/\sg<=7)(a b c v1 v2 v3:Int)(P Q v4 v5:ByteArray)(w:World)(hp:P.size<=1048576)(hv:v4.size<=1048576) :
  Calls prog 78 #[.agg #[.int .i64 sg,.int .i64 0,.int .i64 a,.int .i64 b,.int .i64 c,.string P,.string Q],.agg #[.int .i64 v1,.int .i64 v2,.int .i64 v3,.string v4,.string v5]] w fun e w'=>e=.returned (.bool (iK ⟨sg,⟨0,a,b,c,P.data.toList⟩⟩ ⟨v1,v2,v3,v4.data.toList⟩))/\w.grownBy w' none:=by
 obtain⟨N,hN⟩:=zN (iF ⟨0,a,b,c,P.data.toList⟩ ⟨v1,v2,v3,v4.data.toList⟩);obtain⟨C,hC⟩:=zN (gQ ⟨0,a,b,c,P.data.toList⟩ ⟨v1,v2,v3,v4.data.toList⟩);obtain⟨L,hL⟩:=zN (mr ⟨0,a,b,c,P.data.toList⟩ ⟨v1,v2,v3,v4.data.toList⟩);obtain⟨x,hx⟩:=zN (aB (bu ⟨0,a,b,c,P.data.toList⟩) ⟨v1,v2,v3,v4.data.toList⟩);have CN:Hd (∀w,Calls prog 101 #[.agg #[.int .i64 0,.int .i64 a,.int .i64 b,.int .i64 c,.string P,.string Q],.agg #[.int .i64 v1,.int .i64 v2,.int .i64 v3,.string v4,.string v5]] w fun e w'=>e=.returned (.bool N)/\w.grownBy w' none):=fun w=>by rw[<-hN];exact QB a b c v1 v2 v3 P Q v4 v5 w
 have CP:Hd (∀w,Calls prog 100 #[.agg #[.int .i64 0,.int .i64 a,.int .i64 b,.int .i64 c,.string P,.string Q],.agg #[.int .i64 v1,.int .i64 v2,.int .i64 v3,.string v4,.string v5]] w fun e w'=>e=.returned (.int .i64 C)/\w.grownBy w' none):=fun w=>by rw[<-hC];exact abg a b c v1 v2 v3 P Q v4 v5 w hp hv
 have CL:Hd (∀w,Calls prog 103 #[.agg #[.int .i64 0,.int .i64 a,.int .i64 b,.int .i64 c,.string P,.string Q],.agg #[.int .i64 v1,.int .i64 v2,.int .i64 v3,.string v4,.string v5]] w fun e w'=>e=.returned (.bool L)/\w.grownBy w' none):=fun w=>by rw[<-hL];exact abl a b c v1 v2 v3 P Q v4 v5 w
 have CF:=ae (abp a b c P Q);have CC:Hd (∀w,Calls prog 45 #[.agg #[.int .i64 a,.int .i64 b,.int .i64 c,.string ⟨#[48]⟩,.string ⟨#[]⟩],.agg #[.int .i64 v1,.int .i64 v2,.int .i64 v3,.string v4,.string v5]] w fun e w'=>e=.returned (.int .i64 x)/\w.grownBy w' none):=fun w=>by
  rw[<-hx];refine(Aw a b c v1 v2 v3 ⟨#[48]⟩ ⟨#[]⟩ v4 v5 w (by show 1<=_;omega) hv).mono ?_;rintro e w' ⟨rfl,h⟩;exact⟨rfl,Au h⟩
 obtain⟨F,hF⟩:=zN (o8 ⟨0,a,b,c,P.data.toList⟩ ⟨v1,v2,v3,v4.data.toList⟩);have EN:Hd (F=true):=by show F=_;rw[<-hF];rfl
 obtain⟨R,hR⟩:=zN (iK ⟨sg,⟨0,a,b,c,P.data.toList⟩⟩ ⟨v1,v2,v3,v4.data.toList⟩);have HR:Hd (R=if sg=0 then N else if sg=1 then decide (0<=C) else if sg=2 then decide (C<=0) else if sg=3 then decide (0<C) else if sg=4 then decide (C<0) else if sg=5 then F && L else if sg=6 then(F && (decide (0<1) || decide (v1=a))) && (decide (0<2) || decide (v2=b)) else F):=by
  show R=_;rw[<-hR];unfold iK;rw[hN,hC,hL,hF]
 rw[hR];have dW:=ae hs;clear hN hC hL hx hF hR hp hv hs;go_enter func78,ntmps78;go_wp2_with (go_at_call 100;refine(CP.o _).mono ?_);rintro e w1 ⟨rfl,hg⟩;obtain⟨A,hA⟩:=zN (w.heap.size);have HT:Hd (TR A sg 0 a b c P Q w1):=by
  refine TR.grow (w:=(w.alloc (.cells #[.int .i64 sg,.int .i64 0,.int .i64 a,.int .i64 b,.int .i64 c,.string P,.string Q] 141)).alloc (.cells #[.int .i64 v1,.int .i64 v2,.int .i64 v3,.string v4,.string v5] 97)) ?_ hg;unfold TR;rw[<-hA,Lib.alloc_old _ _ _ (by simp)];exact heap_alloc_new w _
 have HV:Hd (St (A+1) v1 v2 v3 v4 v5 w1):=by
  refine St.grow ?_ hg;refine vX (t:=97) ?_;rw[<-hA];exact QH w _ _
 have HG:=ae (ah (au (au (ak w none) _) _) hg)
 try rw[hA]
 clear hA hg;obtain⟨t0,t1,t2,t3,t4,t5,t6⟩:=HT.o.cells;obtain⟨s1,s2,s3,s4,s5⟩:=HV.o;go_wp2_with (go_at_call 101;refine(CN.o _).mono ?_);rintro e w2 ⟨rfl,hg⟩;replace HT:=ae (HT.o.grow hg);replace HV:=ae (HV.o.grow hg);replace HG:=ae (ah HG.o hg);clear hg t0 t1 t2 t3 t4 t5 t6 s1 s2 s3 s4 s5;obtain⟨t0,t1,t2,t3,t4,t5,t6⟩:=HT.o.cells;obtain⟨s1,s2,s3,s4,s5⟩:=HV.o;go_wp2_with (fail);go_quiet (fail);obtain⟨U,hU⟩:=zN (w2.drewN nq);replace HT:Hd (TR A sg 0 a b c P Q U):=by show TR _ _ _ _ _ _ _ _ U;rw[<-hU];exact HT.o
 replace HV:Hd (St (A+1) v1 v2 v3 v4 v5 U):=by show St _ _ _ _ _ _ U;rw[<-hU];exact HV.o
 replace HG:Hd (w.grownBy U none):=by show w.grownBy U none;rw[<-hU];exact aF HG.o _
 try rw[hU]
 clear hU t0 t1 t2 t3 t4 t5 t6 s1 s2 s3 s4 s5;have Jl:=EN.o;subst Jl;have hsg:=dW.o;clear dW;obtain⟨t0,t1,t2,t3,t4,t5,t6⟩:=HT.o.cells;obtain⟨s1,s2,s3,s4,s5⟩:=HV.o
 by_cases h5:sg=5
 ·subst h5;clear hsg;go_wp2_with (go_at_call 103;refine(CL.o _).mono ?_);rintro e w5 rfl hg5;replace HG:=ae (ah HG.o hg5);clear hg5;go_wp2
  all_goals go_ret
  all_goals (refine⟨bn ?_,HG.o⟩;have hr:=HR.o;clear HR;simp_all<;>rfl)
 ·have hss:sg=0\/sg=1\/sg=2\/sg=3\/sg=4\/sg=6\/sg=7:=by omega
  clear h5 hsg
  rcases hss with rfl|rfl|rfl|rfl|rfl|rfl|rfl
  all_goals (
   go_wp2
   all_goals go_ret
   all_goals (refine⟨bn ?_,HG.o⟩;have hr:=HR.o;clear HR;simp_all<;>rfl))
theorem Jm(k:Nat)(m:Int)(hm:(m=1/\k=1)\/(m=2/\k=2)\/(m=3/\k=3))(sg:Int)(hs:0<=sg/\sg<=7)(a b c v1 v2 v3:Int)(P Q X v4 v5:ByteArray)(w:World)(hX:X.size<=1048576)(hXk:bu ⟨k,a,b,c,P.data.toList⟩=⟨a,b,c,X.data.toList⟩)(hFk:o8 ⟨k,a,b,c,P.data.toList⟩ ⟨v1,v2,v3,v4.data.toList⟩=decide (aB (bu ⟨k,a,b,c,P.data.toList⟩) ⟨v1,v2,v3,v4.data.toList⟩<=0))(CN:Hd (∀w,Calls prog 101 #[.agg #[.int .i64 m,.int .i64 a,.int .i64 b,.int .i64 c,.string P,.string Q],.agg #[.int .i64 v1,.int .i64 v2,.int .i64 v3,.string v4,.string v5]] w fun e w'=>e=.returned (.bool (iF ⟨k,a,b,c,P.data.toList⟩ ⟨v1,v2,v3,v4.data.toList⟩))/\w.grownBy w' none))(CP:Hd (∀w,Calls prog 100 #[.agg #[.int .i64 m,.int .i64 a,.int .i64 b,.int .i64 c,.string P,.string Q],.agg #[.int .i64 v1,.int .i64 v2,.int .i64 v3,.string v4,.string v5]] w fun e w'=>e=.returned (.int .i64 (gQ ⟨k,a,b,c,P.data.toList⟩ ⟨v1,v2,v3,v4.data.toList⟩))/\w.grownBy w' none))(CL:Hd (∀w,Calls prog 103 #[.agg #[.int .i64 m,.int .i64 a,.int .i64 b,.int .i64 c,.string P,.string Q],.agg #[.int .i64 v1,.int .i64 v2,.int .i64 v3,.string v4,.string v5]] w fun e w'=>e=.returned (.bool (mr ⟨k,a,b,c,P.data.toList⟩ ⟨v1,v2,v3,v4.data.toList⟩))/\w.grownBy w' none))(CF:Hd (∀w,Calls prog 102 #[.agg #[.int .i64 m,.int .i64 a,.int .i64 b,.int .i64 c,.string P,.string Q]] w fun e w'=>e=.returned (.agg #[.int .i64 a,.int .i64 b,.int .i64 c,.string X,.string ⟨#[]⟩])/\w.grownBy w' none))(hv:v4.size<=1048576) :
  Calls prog 78 #[.agg #[.int .i64 sg,.int .i64 m,.int .i64 a,.int .i64 b,.int .i64 c,.string P,.string Q],.agg #[.int .i64 v1,.int .i64 v2,.int .i64 v3,.string v4,.string v5]] w fun e w'=>e=.returned (.bool (iK ⟨sg,⟨k,a,b,c,P.data.toList⟩⟩ ⟨v1,v2,v3,v4.data.toList⟩))/\w.grownBy w' none:=by
 obtain⟨N,hN⟩:=zN (iF ⟨k,a,b,c,P.data.toList⟩ ⟨v1,v2,v3,v4.data.toList⟩);obtain⟨C,hC⟩:=zN (gQ ⟨k,a,b,c,P.data.toList⟩ ⟨v1,v2,v3,v4.data.toList⟩);obtain⟨L,hL⟩:=zN (mr ⟨k,a,b,c,P.data.toList⟩ ⟨v1,v2,v3,v4.data.toList⟩);obtain⟨x,hx⟩:=zN (aB (bu ⟨k,a,b,c,P.data.toList⟩) ⟨v1,v2,v3,v4.data.toList⟩);rw[hN]at CN;rw[hC]at CP;rw[hL]at CL;have CC:Hd (∀w,Calls prog 45 #[.agg #[.int .i64 a,.int .i64 b,.int .i64 c,.string X,.string ⟨#[]⟩],.agg #[.int .i64 v1,.int .i64 v2,.int .i64 v3,.string v4,.string v5]] w fun e w'=>e=.returned (.int .i64 x)/\w.grownBy w' none):=fun w=>by
  rw[<-hx,hXk];refine(Aw a b c v1 v2 v3 X ⟨#[]⟩ v4 v5 w hX hv).mono ?_;rintro e w' ⟨rfl,h⟩;exact⟨rfl,Au h⟩
 obtain⟨F,hF⟩:=zN (o8 ⟨k,a,b,c,P.data.toList⟩ ⟨v1,v2,v3,v4.data.toList⟩);have EN:Hd (F=decide (x<=0)):=by show F=_;rw[<-hF,<-hx,hFk]
 obtain⟨R,hR⟩:=zN (iK ⟨sg,⟨k,a,b,c,P.data.toList⟩⟩ ⟨v1,v2,v3,v4.data.toList⟩);have HR:Hd (R=if sg=0 then N else if sg=1 then decide (0<=C) else if sg=2 then decide (C<=0) else if sg=3 then decide (0<C) else if sg=4 then decide (C<0) else if sg=5 then F && L else if sg=6 then(F && (decide (k<1) || decide (v1=a))) && (decide (k<2) || decide (v2=b)) else F):=by
  show R=_;rw[<-hR];unfold iK;rw[hN,hC,hL,hF]
 rw[hR];have dW:=ae hs;have HM:=ae hm;have hm0:(m == 0)=false:=by rcases hm with⟨rfl,-⟩|⟨rfl,-⟩|⟨rfl,-⟩<;>rfl
 clear hN hC hL hx hF hR hv hs hX hXk hFk hm;go_enter func78,ntmps78;go_wp2_with (go_at_call 100;refine(CP.o _).mono ?_);rintro e w1 ⟨rfl,hg⟩;obtain⟨A,hA⟩:=zN (w.heap.size);have HT:Hd (TR A sg m a b c P Q w1):=by
  refine TR.grow (w:=(w.alloc (.cells #[.int .i64 sg,.int .i64 m,.int .i64 a,.int .i64 b,.int .i64 c,.string P,.string Q] 141)).alloc (.cells #[.int .i64 v1,.int .i64 v2,.int .i64 v3,.string v4,.string v5] 97)) ?_ hg;unfold TR;rw[<-hA,Lib.alloc_old _ _ _ (by simp)];exact heap_alloc_new w _
 have HV:Hd (St (A+1) v1 v2 v3 v4 v5 w1):=by
  refine St.grow ?_ hg;refine vX (t:=97) ?_;rw[<-hA];exact QH w _ _
 have HG:=ae (ah (au (au (ak w none) _) _) hg)
 try rw[hA]
 clear hA hg;obtain⟨t0,t1,t2,t3,t4,t5,t6⟩:=HT.o.cells;obtain⟨s1,s2,s3,s4,s5⟩:=HV.o;go_wp2_with (first|(go_at_call 101;refine(CN.o _).mono ?_));rintro e w2 ⟨rfl,hg⟩;replace HT:=ae (HT.o.grow hg);replace HV:=ae (HV.o.grow hg);replace HG:=ae (ah HG.o hg);clear hg t0 t1 t2 t3 t4 t5 t6 s1 s2 s3 s4 s5;obtain⟨t0,t1,t2,t3,t4,t5,t6⟩:=HT.o.cells;obtain⟨s1,s2,s3,s4,s5⟩:=HV.o;obtain⟨fb,hfb⟩:=zN (decide (x<=0));have EF:=ae hfb;clear hfb;go_wp2_with (fail)
 go_region_held3 (fun w'=>w'.cell? ⟨A,1,none⟩=some (.int .i64 m)/\w'.cell? ⟨A,2,none⟩=some (.int .i64 a)/\w'.cell? ⟨A,3,none⟩=some (.int .i64 b)/\w'.cell? ⟨A,4,none⟩=some (.int .i64 c)/\w'.cell? ⟨A,5,none⟩=some (.string P)/\w'.cell? ⟨A,6,none⟩=some (.string Q)/\w'.cell? ⟨A+1,0,none⟩=some (.int .i64 v1)/\w'.cell? ⟨A+1,1,none⟩=some (.int .i64 v2)/\w'.cell? ⟨A+1,2,none⟩=some (.int .i64 v3)/\w'.cell? ⟨A+1,3,none⟩=some (.string v4)/\w'.cell? ⟨A+1,4,none⟩=some (.string v5)) (first|(simp only[QG];exact⟨t1,t2,t3,t4,t5,t6,s1,s2,s3,s4,s5⟩)|exact abu (by assumption) (by assumption)) (first|(go_at_call 102;refine(CF.o _).mono ?_;rintro e w3 ⟨rfl,hg3⟩)|(go_at_call 45;refine(CC.o _).mono ?_;rintro e w4 ⟨rfl,hg4⟩))
 have hg5:=ah (cZ hg3) hg4;replace HT:=ae (HT.o.grow hg5);replace HV:=ae (HV.o.grow hg5);replace HG:=ae (ah HG.o hg5);clear hg3 hg4 hg5 t0 t1 t2 t3 t4 t5 t6 s1 s2 s3 s4 s5 EF;have Jl:=EN.o;subst Jl
 cases hxb:decide (x<=0)
 all_goals (
  rw[hxb]at HR;clear hxb EN;have hsg:=dW.o;clear dW;obtain⟨t0,t1,t2,t3,t4,t5,t6⟩:=HT.o.cells;obtain⟨s1,s2,s3,s4,s5⟩:=HV.o
  by_cases h5:sg=5
  ·subst h5;clear hsg
   first
    | (go_wp2_with (go_at_call 103;refine(CL.o _).mono ?_)
       rintro e w5 rfl hg5;replace HG:=ae (ah HG.o hg5);clear hg5;go_wp2)
    | go_wp2
   all_goals go_ret
   all_goals (refine⟨bn ?_,HG.o⟩;have hr:=HR.o;clear HR;simp_all<;>rfl)
  ·have hss:sg=0\/sg=1\/sg=2\/sg=3\/sg=4\/sg=6\/sg=7:=by omega
   clear h5 hsg
   rcases HM.o with⟨rfl,rfl⟩|⟨rfl,rfl⟩|⟨rfl,rfl⟩
   all_goals (
    rcases hss with rfl|rfl|rfl|rfl|rfl|rfl|rfl
    all_goals (
     go_wp2
     all_goals go_ret
     all_goals (refine⟨bn ?_,HG.o⟩;have hr:=HR.o;clear HR;simp_all<;>rfl))))
theorem abw(sg:Int)(hs:0<=sg/\sg<=7)(a b c v1 v2 v3:Int)(P Q v4 v5:ByteArray)(w:World)(hp:P.size<=1048576)(hv:v4.size<=1048576) :
  Calls prog 78 #[.agg #[.int .i64 sg,.int .i64 1,.int .i64 a,.int .i64 b,.int .i64 c,.string P,.string Q],.agg #[.int .i64 v1,.int .i64 v2,.int .i64 v3,.string v4,.string v5]] w fun e w'=>e=.returned (.bool (iK ⟨sg,⟨1,a,b,c,P.data.toList⟩⟩ ⟨v1,v2,v3,v4.data.toList⟩))/\w.grownBy w' none :=
 Jm 1 1 (Or.inl ⟨rfl,rfl⟩) sg hs a b c v1 v2 v3 P Q _ v4 v5 w (by show 1<=_;omega) rfl rfl (ae fun w=>QC a b c v1 v2 v3 P Q v4 v5 w) (ae fun w=>abh a b c v1 v2 v3 P Q v4 v5 w hp hv) (ae fun w=>abm a b c v1 v2 v3 P Q v4 v5 w) (ae (abq a b c P Q)) hv
theorem abx(sg:Int)(hs:0<=sg/\sg<=7)(a b c v1 v2 v3:Int)(P Q v4 v5:ByteArray)(w:World)(hp:P.size<=1048576)(hv:v4.size<=1048576) :
  Calls prog 78 #[.agg #[.int .i64 sg,.int .i64 2,.int .i64 a,.int .i64 b,.int .i64 c,.string P,.string Q],.agg #[.int .i64 v1,.int .i64 v2,.int .i64 v3,.string v4,.string v5]] w fun e w'=>e=.returned (.bool (iK ⟨sg,⟨2,a,b,c,P.data.toList⟩⟩ ⟨v1,v2,v3,v4.data.toList⟩))/\w.grownBy w' none :=
 Jm 2 2 (Or.inr (Or.inl ⟨rfl,rfl⟩)) sg hs a b c v1 v2 v3 P Q _ v4 v5 w (by show 1<=_;omega) rfl rfl (ae fun w=>QE a b c v1 v2 v3 P Q v4 v5 w) (ae fun w=>abj a b c v1 v2 v3 P Q v4 v5 w hp hv) (ae fun w=>abn a b c v1 v2 v3 P Q v4 v5 w) (ae (abr a b c P Q)) hv
theorem aby(sg:Int)(hs:0<=sg/\sg<=7)(a b c v1 v2 v3:Int)(P Q v4 v5:ByteArray)(w:World)(hp:P.size<=1048576)(hv:v4.size<=1048576) :
  Calls prog 78 #[.agg #[.int .i64 sg,.int .i64 3,.int .i64 a,.int .i64 b,.int .i64 c,.string P,.string Q],.agg #[.int .i64 v1,.int .i64 v2,.int .i64 v3,.string v4,.string v5]] w fun e w'=>e=.returned (.bool (iK ⟨sg,⟨3,a,b,c,P.data.toList⟩⟩ ⟨v1,v2,v3,v4.data.toList⟩))/\w.grownBy w' none :=
 Jm 3 3 (Or.inr (Or.inr ⟨rfl,rfl⟩)) sg hs a b c v1 v2 v3 P Q _ v4 v5 w hp rfl rfl (ae fun w=>QF a b c v1 v2 v3 P Q v4 v5 w hp hv) (ae fun w=>abk a b c v1 v2 v3 P Q v4 v5 w hp hv) (ae fun w=>abo a b c v1 v2 v3 P Q v4 v5 w) (ae (abt a b c P Q)) hv
end Go.Proofs.YtapodndfpecglaaGreatDoor
