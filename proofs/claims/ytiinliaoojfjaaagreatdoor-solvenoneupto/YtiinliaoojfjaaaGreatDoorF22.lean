import Derived.Test.YtiinliaoojfjaaaGreatDoorF13
import Derived.Test.YtiinliaoojfjaaaGreatDoorF17
import Derived.Test.YtiinliaoojfjaaaGreatDoorF14
set_option linter.all false
set_option maxRecDepth 100000
set_option maxHeartbeats 0
open Go.Proofs.Tryz
namespace Go.Proofs.YtiinliaoojfjaaaGreatDoor
open Go.RowKit
def kW(p:Pa):Value:=.agg #[.int .i64 p.a,.int .i64 p.b,.int .i64 p.c,.string ⟨(bu p).pre.toArray⟩,.string ⟨#[]⟩,.int .i64 (p.n:Int)]
def wB(g:Sg):Value:=.agg #[.int .i64 g.fr.major,.int .i64 g.fr.minor,.int .i64 g.fr.patch,.string ⟨g.fr.pre.toArray⟩,.string ⟨#[]⟩,.int .i64 g.to_.major,.int .i64 g.to_.minor,.int .i64 g.to_.patch,.string ⟨g.to_.pre.toArray⟩,.string ⟨#[]⟩,.bool g.op]
def Ans(f:Nat)(args:Array Value)(v:Value):Prop:=∀w,Calls prog f args w fun e w'=>e=.returned v/\w.grownBy w' none
theorem MS(p:Pa)(hp:eQ p)(k:Nat)(hk:k<=3):Ans 213 #[kW p,.int .i64 (k:Int)] (wB (kS p k)):=by
 intro w;have hc:k=0\/k=1\/k=2\/k=3:=by omega
 rcases hc with rfl|rfl|rfl|rfl
 ·exact aaX p.a p.b p.c p.n ⟨(bu p).pre.toArray⟩ w hp.a0 hp.b0 hp.c0
 ·exact aaY p.a p.b p.c p.n ⟨(bu p).pre.toArray⟩ w hp.a0 hp.b0 hp.c0
 ·exact aaZ p.a p.b p.c p.n ⟨(bu p).pre.toArray⟩ w hp.a0 hp.b0 hp.c0
 ·exact aa0 p.a p.b p.c p.n ⟨(bu p).pre.toArray⟩ w hp.a0 hp.b0 hp.c0
theorem ad3(p:Pa)(hp:eQ p):Ans 214 #[kW p] (.int .i64 (rX p:Int)):=by
 intro w;unfold kW rX
 by_cases h1:p.a=0
 ·by_cases h2:p.b=0
  ·by_cases h3:p.c=0
   ·rw[h1,h2,h3];exact aaW p.n ⟨(bu p).pre.toArray⟩ w
   ·rw[if_neg (not_not_intro h1),if_neg (not_not_intro h2),if_pos h3,h1,h2];exact aaV p.c p.n ⟨(bu p).pre.toArray⟩ w h3
  ·rw[if_neg (not_not_intro h1),if_pos h2,h1];exact aaU p.b p.c p.n ⟨(bu p).pre.toArray⟩ w h2
 ·rw[if_pos h1];exact aaT p.a p.b p.c p.n ⟨(bu p).pre.toArray⟩ w h1
theorem ad4(p:Pa)(hp:eQ p):rX p<=3:=by
 have:=hp.n3;unfold rX
 repeat' split
 all_goals omega
theorem U6(p:Pa)(hp:eQ p)(hl:p.pre.length<1000):Ans 211 #[kW p] (wB (di p)):=by
 intro w
 by_cases h3:p.n=3
 ·obtain⟨n3,n4,hn,he,h1⟩:=acf p.a p.b p.c ⟨(bu p).pre.toArray⟩ ⟨#[]⟩ (by
   show(bu p).pre.toArray.size < _;unfold bu;rw[if_neg (by omega)];simp;omega) (by have:=hp.c0;omega)
  have hG:di p=⟨bu p,mF (bu p),false⟩:=by unfold di;rw[if_pos h3]
  have hV:mF (bu p)=⟨p.a,p.b,n3,n4.data.toList⟩:=by
   rw[<-he];rfl
  have:=ach p.a p.b p.c n3 ⟨(bu p).pre.toArray⟩ n4 w h1;unfold kW;rw[h3,hG,hV];unfold wB;have e4:(⟨n4.data.toList.toArray⟩:ByteArray)=n4:=by cases n4;simp
  rw[e4];exact this
 ·have hn:=hp.n3;have hG:di p=kS p p.n:=by unfold di;rw[if_neg h3]
  rw[hG];exact aci p.a p.b p.c p.n _ _ _ _ _ _ ⟨(bu p).pre.toArray⟩ _ _ _ _ _ w (by simp;omega) (fun w=>MS p hp p.n hn w)
def zA(s:Int):Nat:=if s=1 then 207 else if s=2 then 208 else if s=3 then 209 else if s=4 then 210 else if s=5 then 212 else if s=6 then 215 else 211
theorem ad5(s:Int)(hs:-1<=s/\s<=6)(p:Pa)(hp:eQ p)(hl:p.pre.length<1000):Ans (zA s) #[kW p] (wB (zq (if s<0 then 0 else s) p)):=by
 intro w;have hN:=U6 p hp hl;have hss:s=-1\/s=0\/s=1\/s=2\/s=3\/s=4\/s=5\/s=6:=by omega
 rcases hss with rfl|rfl|rfl|rfl|rfl|rfl|rfl|rfl
 ·exact hN w
 ·exact hN w
 ·exact aaP p.a p.b p.c p.n ⟨(bu p).pre.toArray⟩ w
 ·exact aa1 p.a p.b p.c p.n _ _ _ _ _ _ ⟨(bu p).pre.toArray⟩ _ _ _ _ _ w hN
 ·show Calls _ _ _ _ fun e w'=>e=.returned (wB (if(di p).op=true then⟨ku,ku,false⟩ else⟨(di p).to_,uu,true⟩))/\_
  cases ho:(di p).op with
  | true =>
   have hN':∀w,Calls prog 211 #[kW p] w fun e w'=>e=.returned (.agg #[.int .i64 (di p).fr.major,.int .i64 (di p).fr.minor,.int .i64 (di p).fr.patch,.string ⟨(di p).fr.pre.toArray⟩,.string ⟨#[]⟩,.int .i64 (di p).to_.major,.int .i64 (di p).to_.minor,.int .i64 (di p).to_.patch,.string ⟨(di p).to_.pre.toArray⟩,.string ⟨#[]⟩,.bool true])/\w.grownBy w' none:=fun w=>by
    have:=hN w;unfold wB at this;rw[ho]at this;exact this
   exact aa2 p.a p.b p.c p.n _ _ _ _ _ _ ⟨(bu p).pre.toArray⟩ _ _ _ _ w hN'
  | false =>
   have hN':∀w,Calls prog 211 #[kW p] w fun e w'=>e=.returned (.agg #[.int .i64 (di p).fr.major,.int .i64 (di p).fr.minor,.int .i64 (di p).fr.patch,.string ⟨(di p).fr.pre.toArray⟩,.string ⟨#[]⟩,.int .i64 (di p).to_.major,.int .i64 (di p).to_.minor,.int .i64 (di p).to_.patch,.string ⟨(di p).to_.pre.toArray⟩,.string ⟨#[]⟩,.bool false])/\w.grownBy w' none:=fun w=>by
    have:=hN w;unfold wB at this;rw[ho]at this;exact this
   exact aa3 p.a p.b p.c p.n _ _ _ _ _ _ ⟨(bu p).pre.toArray⟩ _ _ _ _ w hN'
 ·exact acj p.a p.b p.c p.n ⟨(bu p).pre.toArray⟩ w
 ·exact aco (rX p:Int) p.a p.b p.c p.n _ _ _ _ _ _ ⟨(bu p).pre.toArray⟩ _ _ _ _ _ w (ad3 p hp) (MS p hp (rX p) (ad4 p hp))
 ·show Calls _ _ _ _ fun e w'=>e=.returned (wB (kS p (min p.n 2)))/\_
  have hn:p.n=0\/p.n=1\/p.n=2\/p.n=3:=by have:=hp.n3;omega
  have hA:=MS p hp (min p.n 2) (by omega);unfold kW at hA ⊢
  rcases hn with h|h|h|h
  ·rw[h]at hA ⊢;exact ack p.a p.b p.c _ _ _ _ _ _ ⟨(bu p).pre.toArray⟩ _ _ _ _ _ w hA
  ·rw[h]at hA ⊢;exact acl p.a p.b p.c _ _ _ _ _ _ ⟨(bu p).pre.toArray⟩ _ _ _ _ _ w hA
  ·rw[h]at hA ⊢;exact acm p.a p.b p.c _ _ _ _ _ _ ⟨(bu p).pre.toArray⟩ _ _ _ _ _ w hA
  ·rw[h]at hA ⊢;exact acn p.a p.b p.c _ _ _ _ _ _ ⟨(bu p).pre.toArray⟩ _ _ _ _ _ w hA
theorem ad6(p q:Pa)(hq:eQ q)(hl:q.pre.length<1000):Ans 193 #[kW p,kW q] (wB (xW p q)):=by
 intro w;exact aa4 p.a p.b p.c p.n ⟨(bu p).pre.toArray⟩ q.a q.b q.c q.n _ _ _ _ _ _ ⟨(bu q).pre.toArray⟩ _ _ _ _ _ w (U6 q hq hl)
open Go.RowKit
def PR(A:Nat)(n a b c:Int)(P Q:ByteArray)(w:World):Prop:=w.heap[A]?=some (.cells #[.int .i64 n,.int .i64 a,.int .i64 b,.int .i64 c,.string P,.string Q] 105 (0,0))
theorem PR.cells{A:Nat}{n a b c:Int}{P Q:ByteArray}{w:World}(h:PR A n a b c P Q w):w.cell? ⟨A,0,none⟩=some (.int .i64 n)/\w.cell? ⟨A,1,none⟩=some (.int .i64 a)/\w.cell? ⟨A,2,none⟩=some (.int .i64 b)/\w.cell? ⟨A,3,none⟩=some (.int .i64 c)/\w.cell? ⟨A,4,none⟩=some (.string P)/\w.cell? ⟨A,5,none⟩=some (.string Q) :=
 ⟨by rw[ah h];rfl,by rw[ah h];rfl,by rw[ah h];rfl,by rw[ah h];rfl,by rw[ah h];rfl,by rw[ah h];rfl⟩
theorem ad7{w x:World}{B:Nat}(h:w.grownBy x none)(hB:w.heap.size<=B){o:Nat}{v:Value}:w.grownBy (x.setCell ⟨B,o,none⟩ v) none:=by
 refine⟨h.os,h.tape,h.output,by simpa [World.setCell] using h.size,fun k hk hn=>?_⟩;rw[<-h.block k hk hn];exact heap_setCell_other x _ k v (by simp;omega)
theorem PR.grow{A:Nat}{n a b c:Int}{P Q:ByteArray}{w w':World}(h:PR A n a b c P Q w)(hg:w.grownBy w' none):PR A n a b c P Q w':=by
 unfold PR at h ⊢;rw[hg.block A ((aC h)) (by simp)];exact h
theorem U7(a b c v1 v2 v3:Int)(P Q v4 v5:ByteArray)(w:World) :
  Calls prog 79 #[.agg #[.int .i64 0,.int .i64 a,.int .i64 b,.int .i64 c,.string P,.string Q],.agg #[.int .i64 v1,.int .i64 v2,.int .i64 v3,.string v4,.string v5]] w fun e w'=>e=.returned (.bool (iV ⟨0,a,b,c,P.data.toList⟩ ⟨v1,v2,v3,v4.data.toList⟩))/\w.grownBy w' none:=by
 go_enter func79,ntmps79;go_wp2
 all_goals go_ret
 all_goals (refine⟨bi ?_,ak (ak (ai w none) _) _⟩;simp_all [iV]<;>rfl)
theorem U8(a b c v1 v2 v3:Int)(P Q v4 v5:ByteArray)(w:World) :
  Calls prog 79 #[.agg #[.int .i64 1,.int .i64 a,.int .i64 b,.int .i64 c,.string P,.string Q],.agg #[.int .i64 v1,.int .i64 v2,.int .i64 v3,.string v4,.string v5]] w fun e w'=>e=.returned (.bool (iV ⟨1,a,b,c,P.data.toList⟩ ⟨v1,v2,v3,v4.data.toList⟩))/\w.grownBy w' none:=by
 go_enter func79,ntmps79;go_wp2
 all_goals go_ret
 all_goals (refine⟨bi ?_,ak (ak (ai w none) _) _⟩;simp_all [iV]<;>rfl)
theorem U9(a b c v1 v2 v3:Int)(P Q v4 v5:ByteArray)(w:World) :
  Calls prog 79 #[.agg #[.int .i64 2,.int .i64 a,.int .i64 b,.int .i64 c,.string P,.string Q],.agg #[.int .i64 v1,.int .i64 v2,.int .i64 v3,.string v4,.string v5]] w fun e w'=>e=.returned (.bool (iV ⟨2,a,b,c,P.data.toList⟩ ⟨v1,v2,v3,v4.data.toList⟩))/\w.grownBy w' none:=by
 go_enter func79,ntmps79;go_wp2
 all_goals go_ret
 all_goals (refine⟨bi ?_,ak (ak (ai w none) _) _⟩;simp_all [iV]<;>rfl)
theorem Va(a b c v1 v2 v3:Int)(P Q v4 v5:ByteArray)(w:World)(hp:P.size<=1048576)(hv:v4.size<=1048576) :
  Calls prog 79 #[.agg #[.int .i64 3,.int .i64 a,.int .i64 b,.int .i64 c,.string P,.string Q],.agg #[.int .i64 v1,.int .i64 v2,.int .i64 v3,.string v4,.string v5]] w fun e w'=>e=.returned (.bool (iV ⟨3,a,b,c,P.data.toList⟩ ⟨v1,v2,v3,v4.data.toList⟩))/\w.grownBy w' none:=by
 obtain⟨x,hx⟩:=zN (aB ⟨a,b,c,P.data.toList⟩ ⟨v1,v2,v3,v4.data.toList⟩);have HR:Hd (iV ⟨3,a,b,c,P.data.toList⟩ ⟨v1,v2,v3,v4.data.toList⟩=decide (x=0)):=by show _=_;rw[<-hx];rfl
 have CC:Hd (∀w,Calls prog 25 #[.agg #[.int .i64 a,.int .i64 b,.int .i64 c,.string P,.string Q],.agg #[.int .i64 v1,.int .i64 v2,.int .i64 v3,.string v4,.string v5]] w fun e w'=>e=.returned (.int .i64 x)/\w.grownBy w' none):=fun w=>by
  rw[<-hx];refine(yQ a b c v1 v2 v3 P Q v4 v5 w hp hv).mono ?_;rintro e w' ⟨rfl,h⟩;exact⟨rfl,Eo h⟩
 obtain⟨R,hR⟩:=zN (iV ⟨3,a,b,c,P.data.toList⟩ ⟨v1,v2,v3,v4.data.toList⟩);rw[hR]at HR ⊢;clear hx hp hv hR;go_enter func79,ntmps79;go_wp2_with (go_at_call 25;refine(CC.o _).mono ?_);rintro e w1 ⟨rfl,hg⟩;have HG:=ae (ag (ak (ak (ai w none) _) _) hg);clear hg;go_wp2;go_ret;exact⟨bi (by rw[HR.o];rfl),HG.o⟩
theorem IE(k:Nat)(m a b c v1 v2 v3:Int)(P Q v4 v5:ByteArray)(w:World)(hm:iV ⟨k,a,b,c,P.data.toList⟩ ⟨v1,v2,v3,v4.data.toList⟩=false->¬m=0/\¬k=0)(CN:Hd (∀w,Calls prog 79 #[.agg #[.int .i64 m,.int .i64 a,.int .i64 b,.int .i64 c,.string P,.string Q],.agg #[.int .i64 v1,.int .i64 v2,.int .i64 v3,.string v4,.string v5]] w fun e w'=>e=.returned (.bool (iV ⟨k,a,b,c,P.data.toList⟩ ⟨v1,v2,v3,v4.data.toList⟩))/\w.grownBy w' none))(hp:P.size<=1048576)(hv:v4.size<=1048576) :
  Calls prog 78 #[.agg #[.int .i64 m,.int .i64 a,.int .i64 b,.int .i64 c,.string P,.string Q],.agg #[.int .i64 v1,.int .i64 v2,.int .i64 v3,.string v4,.string v5]] w fun e w'=>e=.returned (.int .i64 (iy ⟨k,a,b,c,P.data.toList⟩ ⟨v1,v2,v3,v4.data.toList⟩))/\w.grownBy w' none:=by
 obtain⟨N,hN⟩:=zN (iV ⟨k,a,b,c,P.data.toList⟩ ⟨v1,v2,v3,v4.data.toList⟩);obtain⟨x,hx⟩:=zN (aB ⟨v1,v2,v3,v4.data.toList⟩ (BH ⟨k,a,b,c,P.data.toList⟩));have HR:Hd (iy ⟨k,a,b,c,P.data.toList⟩ ⟨v1,v2,v3,v4.data.toList⟩=if(N || decide (k=0))=true then 0 else x):=by show _=_;unfold iy;rw[hN,hx]
 rw[hN]at CN hm;have CC:Hd (∀w,Calls prog 25 #[.agg #[.int .i64 v1,.int .i64 v2,.int .i64 v3,.string v4,.string v5],.agg #[.int .i64 a,.int .i64 b,.int .i64 c,.string P,.string Q]] w fun e w'=>e=.returned (.int .i64 x)/\w.grownBy w' none):=fun w=>by
  rw[<-hx];refine(yQ v1 v2 v3 a b c v4 v5 P Q w hv hp).mono ?_;rintro e w' ⟨rfl,h⟩;exact⟨rfl,Eo h⟩
 obtain⟨R,hR⟩:=zN (iy ⟨k,a,b,c,P.data.toList⟩ ⟨v1,v2,v3,v4.data.toList⟩);rw[hR]at HR ⊢;have HM:=ae hm;clear hN hx hp hv hR hm;go_enter func78,ntmps78;go_wp2_with (go_at_call 79;refine(CN.o _).mono ?_);rintro e w1 ⟨rfl,hg⟩;obtain⟨A,hA⟩:=zN (w.heap.size);have HP:Hd (PR A m a b c P Q w1):=by
  refine PR.grow (w:=(w.alloc (.cells #[.int .i64 m,.int .i64 a,.int .i64 b,.int .i64 c,.string P,.string Q] 105)).alloc (.cells #[.int .i64 v1,.int .i64 v2,.int .i64 v3,.string v4,.string v5] 61)) ?_ hg;unfold PR;rw[<-hA,Lib.alloc_old _ _ _ (by simp)];exact heap_alloc_new w _
 have HV:Hd (St (A+1) v1 v2 v3 v4 v5 w1):=by
  refine St.grow ?_ hg;refine yN (t:=61) ?_;have:=heap_alloc_new (w.alloc (.cells #[.int .i64 m,.int .i64 a,.int .i64 b,.int .i64 c,.string P,.string Q] 105)) (.cells #[.int .i64 v1,.int .i64 v2,.int .i64 v3,.string v4,.string v5] 61);rw[<-hA];simpa using this
 have HG:=ae (ag (ak (ak (ai w none) _) _) hg)
 try rw[hA]
 clear hA hg;obtain⟨e0,e1,e2,e3,e4,e5⟩:=HP.o.cells;obtain⟨s1,s2,s3,s4,s5⟩:=HV.o
 cases N with
 | true =>
  go_wp2;go_ret;exact⟨bF (by rw[HR.o];rfl),HG.o⟩
 | false =>
  have hm0:(m == 0)=false:=by simp[(HM.o (by trivial)).1]
  go_wp2_with (go_at_call 25;refine(CC.o _).mono ?_;rintro e w2 ⟨rfl,hg2⟩);go_ret;exact⟨bF (by rw[HR.o];simp[(HM.o (by trivial)).2]),ag HG.o hg2⟩
theorem ad8(a b c v1 v2 v3:Int)(P Q v4 v5:ByteArray)(w:World)(hp:P.size<=1048576)(hv:v4.size<=1048576) :
  Calls prog 78 #[.agg #[.int .i64 0,.int .i64 a,.int .i64 b,.int .i64 c,.string P,.string Q],.agg #[.int .i64 v1,.int .i64 v2,.int .i64 v3,.string v4,.string v5]] w fun e w'=>e=.returned (.int .i64 (iy ⟨0,a,b,c,P.data.toList⟩ ⟨v1,v2,v3,v4.data.toList⟩))/\w.grownBy w' none :=
 IE 0 0 a b c v1 v2 v3 P Q v4 v5 w (fun h=>by cases h) (ae fun w=>U7 a b c v1 v2 v3 P Q v4 v5 w) hp hv
theorem ad9(a b c v1 v2 v3:Int)(P Q v4 v5:ByteArray)(w:World)(hp:P.size<=1048576)(hv:v4.size<=1048576) :
  Calls prog 78 #[.agg #[.int .i64 1,.int .i64 a,.int .i64 b,.int .i64 c,.string P,.string Q],.agg #[.int .i64 v1,.int .i64 v2,.int .i64 v3,.string v4,.string v5]] w fun e w'=>e=.returned (.int .i64 (iy ⟨1,a,b,c,P.data.toList⟩ ⟨v1,v2,v3,v4.data.toList⟩))/\w.grownBy w' none :=
 IE 1 1 a b c v1 v2 v3 P Q v4 v5 w (fun _=>by decide) (ae fun w=>U8 a b c v1 v2 v3 P Q v4 v5 w) hp hv
theorem aea(a b c v1 v2 v3:Int)(P Q v4 v5:ByteArray)(w:World)(hp:P.size<=1048576)(hv:v4.size<=1048576) :
  Calls prog 78 #[.agg #[.int .i64 2,.int .i64 a,.int .i64 b,.int .i64 c,.string P,.string Q],.agg #[.int .i64 v1,.int .i64 v2,.int .i64 v3,.string v4,.string v5]] w fun e w'=>e=.returned (.int .i64 (iy ⟨2,a,b,c,P.data.toList⟩ ⟨v1,v2,v3,v4.data.toList⟩))/\w.grownBy w' none :=
 IE 2 2 a b c v1 v2 v3 P Q v4 v5 w (fun _=>by decide) (ae fun w=>U9 a b c v1 v2 v3 P Q v4 v5 w) hp hv
theorem aeb(a b c v1 v2 v3:Int)(P Q v4 v5:ByteArray)(w:World)(hp:P.size<=1048576)(hv:v4.size<=1048576) :
  Calls prog 78 #[.agg #[.int .i64 3,.int .i64 a,.int .i64 b,.int .i64 c,.string P,.string Q],.agg #[.int .i64 v1,.int .i64 v2,.int .i64 v3,.string v4,.string v5]] w fun e w'=>e=.returned (.int .i64 (iy ⟨3,a,b,c,P.data.toList⟩ ⟨v1,v2,v3,v4.data.toList⟩))/\w.grownBy w' none :=
 IE 3 3 a b c v1 v2 v3 P Q v4 v5 w (fun _=>by decide) (ae fun w=>Va a b c v1 v2 v3 P Q v4 v5 w hp hv) hp hv
theorem aec(a b c v1 v2 v3:Int)(P Q v4 v5:ByteArray)(w:World) :
  Calls prog 81 #[.agg #[.int .i64 0,.int .i64 a,.int .i64 b,.int .i64 c,.string P,.string Q],.agg #[.int .i64 v1,.int .i64 v2,.int .i64 v3,.string v4,.string v5]] w fun e w'=>e=.returned (.bool (oZ ⟨0,a,b,c,P.data.toList⟩ ⟨v1,v2,v3,v4.data.toList⟩))/\w.grownBy w' none:=by
 go_enter func81,ntmps81;go_wp2
 all_goals go_ret
 all_goals (refine⟨bi ?_,ak (ak (ai w none) _) _⟩;simp_all [oZ]<;>first|omega|rfl|(rw[Bool.eq_iff_iff];simp;omega))
theorem aed(a b c v1 v2 v3:Int)(P Q v4 v5:ByteArray)(w:World) :
  Calls prog 81 #[.agg #[.int .i64 1,.int .i64 a,.int .i64 b,.int .i64 c,.string P,.string Q],.agg #[.int .i64 v1,.int .i64 v2,.int .i64 v3,.string v4,.string v5]] w fun e w'=>e=.returned (.bool (oZ ⟨1,a,b,c,P.data.toList⟩ ⟨v1,v2,v3,v4.data.toList⟩))/\w.grownBy w' none:=by
 go_enter func81,ntmps81;go_wp2
 all_goals go_ret
 all_goals (refine⟨bi ?_,ak (ak (ai w none) _) _⟩;simp_all [oZ]<;>first|omega|rfl|(rw[Bool.eq_iff_iff];simp;omega))
theorem aee(a b c v1 v2 v3:Int)(P Q v4 v5:ByteArray)(w:World) :
  Calls prog 81 #[.agg #[.int .i64 2,.int .i64 a,.int .i64 b,.int .i64 c,.string P,.string Q],.agg #[.int .i64 v1,.int .i64 v2,.int .i64 v3,.string v4,.string v5]] w fun e w'=>e=.returned (.bool (oZ ⟨2,a,b,c,P.data.toList⟩ ⟨v1,v2,v3,v4.data.toList⟩))/\w.grownBy w' none:=by
 go_enter func81,ntmps81;go_wp2
 all_goals go_ret
 all_goals (refine⟨bi ?_,ak (ak (ai w none) _) _⟩;simp_all [oZ]<;>first|omega|rfl|(rw[Bool.eq_iff_iff];simp;omega))
theorem aef(a b c v1 v2 v3:Int)(P Q v4 v5:ByteArray)(w:World) :
  Calls prog 81 #[.agg #[.int .i64 3,.int .i64 a,.int .i64 b,.int .i64 c,.string P,.string Q],.agg #[.int .i64 v1,.int .i64 v2,.int .i64 v3,.string v4,.string v5]] w fun e w'=>e=.returned (.bool (oZ ⟨3,a,b,c,P.data.toList⟩ ⟨v1,v2,v3,v4.data.toList⟩))/\w.grownBy w' none:=by
 go_enter func81,ntmps81;go_wp2
 all_goals go_ret
 all_goals (refine⟨bi ?_,ak (ak (ai w none) _) _⟩;simp_all [oZ]<;>first|omega|rfl|(rw[Bool.eq_iff_iff];simp;omega))
theorem IG(m a b c:Int)(P Q X:ByteArray)(w:World)(hx:(m<3/\X=⟨#[48]⟩)\/(¬m<3/\X=P)) :
  Calls prog 80 #[.agg #[.int .i64 m,.int .i64 a,.int .i64 b,.int .i64 c,.string P,.string Q]] w fun e w'=>e=.returned (.agg #[.int .i64 a,.int .i64 b,.int .i64 c,.string X,.string ⟨#[]⟩])/\w.grownBy w' none:=by
 have HX:=ae hx;clear hx;have CP:=ae (acp a b c P Q);go_enter func80,ntmps80;go_wp2_with (go_at_call 110;refine(CP.o _).mono ?_)
 first|rintro e w1 rfl hg|rintro e w1 ⟨rfl,hg⟩
 obtain⟨A,hA⟩:=zN (w.heap.size);have HP:Hd (PR A m a b c P Q w1):=by
  refine PR.grow (w:=(w.alloc (.cells #[.int .i64 m,.int .i64 a,.int .i64 b,.int .i64 c,.string P,.string Q] 105)).alloc (.cells #[.int .i64 0,.int .i64 0,.int .i64 0,.string ⟨#[]⟩,.string ⟨#[]⟩] 61)) ?_ hg;unfold PR;rw[<-hA,Lib.alloc_old _ _ _ (by simp)];exact heap_alloc_new w _
 have HR:Hd (w1.heap[A+1]?=some (.cells #[.int .i64 0,.int .i64 0,.int .i64 0,.string ⟨#[]⟩,.string ⟨#[]⟩] 61 (0,0))):=by
  show _=_;have:=heap_alloc_new (w.alloc (.cells #[.int .i64 m,.int .i64 a,.int .i64 b,.int .i64 c,.string P,.string Q] 105)) (.cells #[.int .i64 0,.int .i64 0,.int .i64 0,.string ⟨#[]⟩,.string ⟨#[]⟩] 61);rw[hg.block (A+1) (by simp;omega) (by simp),<-hA];simpa using this
 have HG:=ae (ag (ak (ak (ai w none) _) _) hg);have HA1:Hd (w.heap.size<=A/\A+1<w1.heap.size):=by
  refine⟨by omega,?_⟩;have:=(aC HR.o);omega
 try rw[hA]
 clear hA hg;obtain⟨C,hC⟩:=zN (w1.heap.size);obtain⟨W,hW⟩:=zN (w1.alloc (.cells #[.int .i64 a,.int .i64 b,.int .i64 c,.string P,.string ⟨#[]⟩] 61));have hgW:w1.grownBy W none:=by rw[<-hW];exact ak (ai w1 none) _
 have MV:=ae (HP.o.grow hgW);have HRW:Hd (W.heap[A+1]?=some (.cells #[.int .i64 0,.int .i64 0,.int .i64 0,.string ⟨#[]⟩,.string ⟨#[]⟩] 61 (0,0))):=by show _=_;rw[hgW.block (A+1) HA1.o.2 (by simp)];exact HR.o
 have bU:Hd (W.heap[C]?=some (.cells #[.int .i64 a,.int .i64 b,.int .i64 c,.string P,.string ⟨#[]⟩] 61 (0,0))):=by show _=_;rw[<-hW,<-hC];exact heap_alloc_new w1 _
 have bD:=ae (ag HG.o hgW);have oL:Hd (w.heap.size<=A/\A+1<C):=by show _/\_;rw[<-hC];exact HA1.o
 clear hgW HP HR HG HA1;obtain⟨e0,e1,e2,e3,e4,e5⟩:=MV.o.cells;have r0:W.cell? ⟨A+1,0,none⟩=some (.int .i64 0):=by rw[ah HRW.o];rfl
 have r1:W.cell? ⟨A+1,1,none⟩=some (.int .i64 0):=by rw[ah HRW.o];rfl
 have r2:W.cell? ⟨A+1,2,none⟩=some (.int .i64 0):=by rw[ah HRW.o];rfl
 have r3:W.cell? ⟨A+1,3,none⟩=some (.string ⟨#[]⟩):=by rw[ah HRW.o];rfl
 have r4:W.cell? ⟨A+1,4,none⟩=some (.string ⟨#[]⟩):=by rw[ah HRW.o];rfl
 have rf:=Lib.frozen_of_heap HRW.o;have c0:W.cell? ⟨C,0,none⟩=some (.int .i64 a):=by rw[ah bU.o];rfl
 have c1:W.cell? ⟨C,1,none⟩=some (.int .i64 b):=by rw[ah bU.o];rfl
 have c2:W.cell? ⟨C,2,none⟩=some (.int .i64 c):=by rw[ah bU.o];rfl
 have c3:W.cell? ⟨C,3,none⟩=some (.string P):=by rw[ah bU.o];rfl
 have c4:W.cell? ⟨C,4,none⟩=some (.string ⟨#[]⟩):=by rw[ah bU.o];rfl
 have cf:=Lib.frozen_of_heap bU.o;have hcc:=oL.o;have n1:¬(A+1=C):=by omega
 have n2:¬(C=A+1):=by omega
 have n3:¬(A=C):=by omega
 have n4:¬(C=A):=by omega
 clear hcc
 rcases HX.o with⟨hx,rfl⟩|⟨hx,rfl⟩
 all_goals (
  go_wp2;have hcc:=oL.o;have hrw:=HRW.o;refine bodyPost_ret (results_cell_row rfl _ _ (A+1) 61 #[.int .i64 a,.int .i64 b,.int .i64 c,.string _,.string ⟨#[]⟩] (0,0) _ rfl ?_ underlying61 rfl (by kernel_rfl)) rfl ⟨rfl,by repeat (first|refine ad7 ?_ (by omega)|exact bD.o)⟩;simp[World.setCell,Array.getElem?_modify,hrw,n2])
theorem aeg(a b c:Int)(P Q:ByteArray)(w:World) :
  Calls prog 80 #[.agg #[.int .i64 0,.int .i64 a,.int .i64 b,.int .i64 c,.string P,.string Q]] w fun e w'=>e=.returned (.agg #[.int .i64 a,.int .i64 b,.int .i64 c,.string ⟨#[48]⟩,.string ⟨#[]⟩])/\w.grownBy w' none:=IG 0 a b c P Q _ w (Or.inl ⟨by decide,rfl⟩)
theorem aeh(a b c:Int)(P Q:ByteArray)(w:World) :
  Calls prog 80 #[.agg #[.int .i64 1,.int .i64 a,.int .i64 b,.int .i64 c,.string P,.string Q]] w fun e w'=>e=.returned (.agg #[.int .i64 a,.int .i64 b,.int .i64 c,.string ⟨#[48]⟩,.string ⟨#[]⟩])/\w.grownBy w' none:=IG 1 a b c P Q _ w (Or.inl ⟨by decide,rfl⟩)
theorem aei(a b c:Int)(P Q:ByteArray)(w:World) :
  Calls prog 80 #[.agg #[.int .i64 2,.int .i64 a,.int .i64 b,.int .i64 c,.string P,.string Q]] w fun e w'=>e=.returned (.agg #[.int .i64 a,.int .i64 b,.int .i64 c,.string ⟨#[48]⟩,.string ⟨#[]⟩])/\w.grownBy w' none:=IG 2 a b c P Q _ w (Or.inl ⟨by decide,rfl⟩)
theorem aej(a b c:Int)(P Q:ByteArray)(w:World) :
  Calls prog 80 #[.agg #[.int .i64 3,.int .i64 a,.int .i64 b,.int .i64 c,.string P,.string Q]] w fun e w'=>e=.returned (.agg #[.int .i64 a,.int .i64 b,.int .i64 c,.string P,.string ⟨#[]⟩])/\w.grownBy w' none:=IG 3 a b c P Q _ w (Or.inr ⟨by decide,rfl⟩)
end Go.Proofs.YtiinliaoojfjaaaGreatDoor
