import Derived.Test.YtbcfhgpfgdbjgaaGreatDoorK10
import Derived.Test.YtbcfhgpfgdbjgaaGreatDoorK13
import Derived.Test.YtbcfhgpfgdbjgaaGreatDoorK14
set_option linter.all false
set_option maxRecDepth 100000
set_option maxHeartbeats 0
open Go.Proofs.Tryz
namespace Go.Proofs.YtbcfhgpfgdbjgaaGreatDoor
open Go.RowKit
variable{P:ByteArray}{c:Int}{a b ns:List Tn}{A B S d m n p q:Nat}{w w':World}
def PB(A:Nat)(a b c:Int)(P:ByteArray)(n:Int)(w:World):Prop:=w.heap[A]?=some (.cells #[.int .i64 a,.int .i64 b,.int .i64 c,.string P,.string ⟨#[]⟩,.int .i64 n] 226 (0,0))
theorem PB.cells{a b:Int}{n:Int}(h:PB A a b c P n w):w.cell? ⟨A,0,none⟩=some (.int .i64 a)/\w.cell? ⟨A,1,none⟩=some (.int .i64 b)/\w.cell? ⟨A,2,none⟩=some (.int .i64 c)/\w.cell? ⟨A,3,none⟩=some (.string P)/\w.cell? ⟨A,4,none⟩=some (.string ⟨#[]⟩)/\w.cell? ⟨A,5,none⟩=some (.int .i64 n) :=
 ⟨by rw[aj h];rfl,by rw[aj h];rfl,by rw[aj h];rfl,by rw[aj h];rfl,by rw[aj h];rfl,by rw[aj h];rfl⟩
theorem PB.grow{a b:Int}{n:Int}(h:PB A a b c P n w)(hg:w.grownBy w' none):PB A a b c P n w':=by
 unfold PB at h ⊢;rw[hg.block A ((bJ h)) (by simp)];exact h
def SZ(B:Nat)(w:World):Prop:=w.heap[B]?=some (.cells #[.int .i64 0,.int .i64 0,.int .i64 0,.string ⟨#[]⟩,.string ⟨#[]⟩,.int .i64 0,.int .i64 0,.int .i64 0,.string ⟨#[]⟩,.string ⟨#[]⟩,.bool false] 221 (0,0))
theorem SZ.cells(h:SZ B w):w.cell? ⟨B,0,none⟩=some (.int .i64 0)/\w.cell? ⟨B,1,none⟩=some (.int .i64 0)/\w.cell? ⟨B,2,none⟩=some (.int .i64 0)/\w.cell? ⟨B,3,none⟩=some (.string ⟨#[]⟩)/\w.cell? ⟨B,4,none⟩=some (.string ⟨#[]⟩)/\w.cell? ⟨B,5,none⟩=some (.int .i64 0)/\w.cell? ⟨B,6,none⟩=some (.int .i64 0)/\w.cell? ⟨B,7,none⟩=some (.int .i64 0)/\w.cell? ⟨B,8,none⟩=some (.string ⟨#[]⟩)/\w.cell? ⟨B,9,none⟩=some (.string ⟨#[]⟩)/\w.cell? ⟨B,10,none⟩=some (.bool false) :=
 ⟨by rw[aj h];rfl,by rw[aj h];rfl,by rw[aj h];rfl,by rw[aj h];rfl,by rw[aj h];rfl,by rw[aj h];rfl,by rw[aj h];rfl,by rw[aj h];rfl,by rw[aj h];rfl,by rw[aj h];rfl,by rw[aj h];rfl⟩
theorem SZ.f(h:SZ B w)(o:Nat):w.frozen? ⟨B,o,none⟩=false:=Lib.frozen_of_heap h o
theorem SZ.grow(h:SZ B w)(hg:w.grownBy w' none):SZ B w':=by
 unfold SZ at h ⊢;rw[hg.block B ((bJ h)) (by simp)];exact h
theorem uM{x:World}(h:w.grownBy x none)(hB:w.heap.size<=B){o:Nat}{v:Value}:w.grownBy (x.setCell ⟨B,o,none⟩ v) none:=by
 refine⟨h.os,h.tape,h.output,by simpa [World.setCell] using h.size,fun k hk hn=>?_⟩;rw[<-h.block k hk hn];exact heap_setCell_other x _ k v (by simp;omega)
theorem pX(w:World)(p:Addr):w.drew.cell? p=w.cell? p:=rfl
theorem cell_far(h:A≠B)(w:World)(o:Nat)(x:Value)(k:Nat):(w.setCell ⟨B,o,none⟩ x).cell? ⟨A,k,none⟩=w.cell? ⟨A,k,none⟩:=by
 unfold World.cell?;rw[heap_setCell_other w _ A x (by simpa using h)]
theorem O9{p0 p1 p2 p3 p4:Addr}{c0 c1 c2 c3 c4:Value}(hg:w.grownBy w' none)(h:w.cell? p0=some c0/\w.cell? p1=some c1/\w.cell? p2=some c2/\w.cell? p3=some c3/\w.cell? p4=some c4):w'.cell? p0=some c0/\w'.cell? p1=some c1/\w'.cell? p2=some c2/\w'.cell? p3=some c3/\w'.cell? p4=some c4:=by
 obtain⟨h0,h1,h2,h3,h4⟩:=h;exact⟨hg.cell h0 (by simp),hg.cell h1 (by simp),hg.cell h2 (by simp),hg.cell h3 (by simp),hg.cell h4 (by simp)⟩
theorem XF(w:World)(o1 o2 o3:Obj):(((w.alloc o1).alloc o2).alloc o3).heap[w.heap.size+2]?=some o3:=by
 have:=heap_alloc_new ((w.alloc o1).alloc o2) o3;simpa using this
theorem JD(w:World)(o1 o2:Obj):((w.alloc o1).alloc o2).heap[w.heap.size+1]?=some o2:=by
 have:=heap_alloc_new (w.alloc o1) o2;simpa using this
theorem Ci{w1:World}{a b n:Int}(hA:w.heap.size=A)(hg:((w.alloc (.cells #[.int .i64 a,.int .i64 b,.int .i64 c,.string P,.string ⟨#[]⟩,.int .i64 n] 226)).alloc (.cells #[.int .i64 0,.int .i64 0,.int .i64 0,.string ⟨#[]⟩,.string ⟨#[]⟩,.int .i64 0,.int .i64 0,.int .i64 0,.string ⟨#[]⟩,.string ⟨#[]⟩,.bool false] 221)).grownBy w1 none):Hd (PB A a b c P n w1)/\Hd (SZ (A+1) w1)/\Hd (w.grownBy w1 none)/\Hd (w.heap.size<=A/\A+1<w1.heap.size):=by
 subst hA;have hz:SZ (w.heap.size+1) w1:=SZ.grow (JD w _ _) hg;refine⟨PB.grow ?_ hg,hz,ak (aH (aH (ax w none) _) _) hg,Nat.le_refl _,(bJ hz)⟩;unfold PB;rw[Lib.alloc_old _ _ _ (by simp)];exact heap_alloc_new w _
theorem JE{W:World}{a b n:Int}(hA:w.heap.size=A)(hW:(w.alloc (.cells #[.int .i64 a,.int .i64 b,.int .i64 c,.string P,.string ⟨#[]⟩,.int .i64 n] 226)).alloc (.cells #[.int .i64 0,.int .i64 0,.int .i64 0,.string ⟨#[]⟩,.string ⟨#[]⟩,.int .i64 0,.int .i64 0,.int .i64 0,.string ⟨#[]⟩,.string ⟨#[]⟩,.bool false] 221)=W):Hd (PB A a b c P n W)/\Hd (SZ (A+1) W)/\Hd (w.grownBy W none)/\Hd (w.heap.size<=A/\A+1<W.heap.size):=Ci hA (hW ▸ ax _ none)
theorem JF{C:Nat}{t:TypeId}{fz:Nat × Nat}{v0 v1 v2 v3 v4 v5 v6 v7 v8 v9 v10:Value}(h:w.heap[C]?=some (.cells #[v0,v1,v2,v3,v4,v5,v6,v7,v8,v9,v10] t fz)):w.cell? ⟨C,0,none⟩=some v0/\w.cell? ⟨C,1,none⟩=some v1/\w.cell? ⟨C,2,none⟩=some v2/\w.cell? ⟨C,3,none⟩=some v3/\w.cell? ⟨C,4,none⟩=some v4/\w.cell? ⟨C,5,none⟩=some v5/\w.cell? ⟨C,6,none⟩=some v6/\w.cell? ⟨C,7,none⟩=some v7/\w.cell? ⟨C,8,none⟩=some v8/\w.cell? ⟨C,9,none⟩=some v9/\w.cell? ⟨C,10,none⟩=some v10 :=
 ⟨by rw[aj h];rfl,by rw[aj h];rfl,by rw[aj h];rfl,by rw[aj h];rfl,by rw[aj h];rfl,by rw[aj h];rfl,by rw[aj h];rfl,by rw[aj h];rfl,by rw[aj h];rfl,by rw[aj h];rfl,by rw[aj h];rfl⟩
theorem afd(a b c n r:Int)(P:ByteArray)(w:World)(h1:¬a=0->r=1)(h2:a=0->¬b=0->r=2)(h3:a=0->b=0->¬c=0->r=3)(h4:a=0->b=0->c=0->r=n) :
  Calls prog 186 #[.agg #[.int .i64 a,.int .i64 b,.int .i64 c,.string P,.string ⟨#[]⟩,.int .i64 n]] w fun e w'=>e=.returned (.int .i64 r)/\w.grownBy w' none:=by
 have H:Hd ((¬a=0->r=1)/\(a=0->¬b=0->r=2)/\(a=0->b=0->¬c=0->r=3)/\(a=0->b=0->c=0->r=n)):=⟨h1,h2,h3,h4⟩;clear h1 h2 h3 h4;go_enter func186,ntmps186;go_wp2_with (go_at_call 188;refine(NJ _ _ (by simp)).mono ?_);rintro e w1 ⟨rfl,hg⟩;obtain⟨A,hA⟩:=zN (w.heap.size);have HV:Hd (PB A a b c P n w1):=by
  refine PB.grow (w:=w.alloc (.cells #[.int .i64 a,.int .i64 b,.int .i64 c,.string P,.string ⟨#[]⟩,.int .i64 n] 226)) ?_ hg;unfold PB;rw[<-hA];exact heap_alloc_new w _
 have HG:=ae (ak (aH (ax w none) _) hg)
 try rw[hA]
 clear hA hg;go_wp2;go_loopw [7] (fun vi wr=>(vi=.int .i64 0\/vi=.int .i64 1/\a=0\/vi=.int .i64 2/\a=0/\b=0\/vi=.int .i64 3/\a=0/\b=0/\c=0)/\PB A a b c P n wr/\w.grownBy wr none) (fun vi _=>3-(intOf vi).toNat)
 case atStart=>exact⟨Or.inl rfl,HV.o,HG.o⟩
 case round=>
  obtain⟨hs,hv,hg⟩:=hrel;clear HV HG;have HV:=ae hv;have HG:=ae hg;clear hv hg;obtain⟨e0,e1,e2,e3,e4,e5⟩:=HV.o.cells
  rcases hs with rfl|⟨rfl,ha⟩|⟨rfl,ha,hb⟩|⟨rfl,ha,hb,hc⟩
  ·have ix:=NK A wr
   by_cases q:a=0
   ·have Q:=ae q;subst q;go_wp2;exact⟨⟨Or.inr (Or.inl ⟨rfl,by trivial⟩),HV.o,HG.o⟩,by simp[intOf]⟩
   ·have Q:=ae (H.o.1 q);go_wp2;go_ret;exact⟨dm Q.o.symm,HG.o⟩
  ·have ix:=NL A wr
   by_cases q:b=0
   ·subst q ha;go_wp2;exact⟨⟨Or.inr (Or.inr (Or.inl ⟨rfl,by trivial,by trivial⟩)),HV.o,HG.o⟩,by simp[intOf]⟩
   ·have Q:=ae (H.o.2.1 ha q);clear ha;go_wp2;go_ret;exact⟨dm Q.o.symm,HG.o⟩
  ·have ix:=NM A wr
   by_cases q:c=0
   ·subst q ha hb;go_wp2;exact⟨⟨Or.inr (Or.inr (Or.inr ⟨rfl,by trivial,by trivial,by trivial⟩)),HV.o,HG.o⟩,by simp[intOf]⟩
   ·have Q:=ae (H.o.2.2.1 ha hb q);clear ha hb;go_wp2;go_ret;exact⟨dm Q.o.symm,HG.o⟩
  ·have Q:=ae (H.o.2.2.2 ha hb hc);clear ha hb hc;go_wp2;go_ret;exact⟨dm Q.o.symm,HG.o⟩
theorem afe(a b c n:Int)(P:ByteArray)(w:World)(ha:0<=a/\a<=999999999)(hb:0<=b/\b<=999999999)(hc:0<=c/\c<=999999999) :
  Calls prog 185 #[.agg #[.int .i64 a,.int .i64 b,.int .i64 c,.string P,.string ⟨#[]⟩,.int .i64 n],.int .i64 0] w fun e w'=>e=.returned (.agg #[.int .i64 a,.int .i64 b,.int .i64 c,.string P,.string ⟨#[]⟩,.int .i64 0,.int .i64 0,.int .i64 0,.string ⟨#[]⟩,.string ⟨#[]⟩,.bool true])/\w.grownBy w' none:=by
 clear ha hb hc;go_enter func185,ntmps185;go_wp2;refine bodyPost_ret (results_cell_row rfl _ _ (w.heap.size+1) 221 #[.int .i64 a,.int .i64 b,.int .i64 c,.string P,.string ⟨#[]⟩,.int .i64 0,.int .i64 0,.int .i64 0,.string ⟨#[]⟩,.string ⟨#[]⟩,.bool true] (0,0) _ rfl ?_ underlying221 rfl (by kernel_rfl)) rfl ⟨rfl,aH (aH (ax w none) _) _⟩;have:=heap_alloc_new (w.alloc (.cells #[.int .i64 a,.int .i64 b,.int .i64 c,.string P,.string ⟨#[]⟩,.int .i64 n] 226)) (.cells #[.int .i64 a,.int .i64 b,.int .i64 c,.string P,.string ⟨#[]⟩,.int .i64 0,.int .i64 0,.int .i64 0,.string ⟨#[]⟩,.string ⟨#[]⟩,.bool true] 221);rw[show(w.alloc (.cells #[.int .i64 a,.int .i64 b,.int .i64 c,.string P,.string ⟨#[]⟩,.int .i64 n] 226)).heap.size=w.heap.size+1 by simp]at this;exact this
theorem aff(a b c n k x y z:Int)(P:ByteArray)(w:World)(hk:(k == 0)=false)(CN:∀w,Calls prog 207 #[.agg #[.int .i64 a,.int .i64 b,.int .i64 c,.string P,.string ⟨#[]⟩],.int .i64 k] w fun e w'=>e=.returned (.agg #[.int .i64 x,.int .i64 y,.int .i64 z,.string ⟨#[48]⟩,.string ⟨#[]⟩])/\w.grownBy w' none) :
  Calls prog 185 #[.agg #[.int .i64 a,.int .i64 b,.int .i64 c,.string P,.string ⟨#[]⟩,.int .i64 n],.int .i64 k] w fun e w'=>e=.returned (.agg #[.int .i64 a,.int .i64 b,.int .i64 c,.string P,.string ⟨#[]⟩,.int .i64 x,.int .i64 y,.int .i64 z,.string ⟨#[48]⟩,.string ⟨#[]⟩,.bool false])/\w.grownBy w' none:=by
 have CB:=ae CN;clear CN;go_enter func185,ntmps185;go_wp2_with (fail);obtain⟨A,hA⟩:=zN (w.heap.size);obtain⟨W,hW⟩:=zN ((w.alloc (.cells #[.int .i64 a,.int .i64 b,.int .i64 c,.string P,.string ⟨#[]⟩,.int .i64 n] 226)).alloc (.cells #[.int .i64 0,.int .i64 0,.int .i64 0,.string ⟨#[]⟩,.string ⟨#[]⟩,.int .i64 0,.int .i64 0,.int .i64 0,.string ⟨#[]⟩,.string ⟨#[]⟩,.bool false] 221));obtain⟨HV,HZ,HG,HB⟩:=JE hA hW
 try rw[hW]
 try rw[hA]
 clear hW hA;obtain⟨e0,e1,e2,e3,e4,e5⟩:=HV.o.cells
 go_region_held3 (fun w'=>w'.cell? ⟨A,0,none⟩=some (.int .i64 a)/\w'.cell? ⟨A,1,none⟩=some (.int .i64 b)/\w'.cell? ⟨A,2,none⟩=some (.int .i64 c)/\w'.cell? ⟨A,3,none⟩=some (.string P)/\w'.cell? ⟨A,4,none⟩=some (.string ⟨#[]⟩)) ((first|(simp only[pX,cell_far (Nat.ne_of_lt (Nat.lt_succ_self A))];assumption)|(simp only[pX];exact⟨e0,e1,e2,e3,e4⟩)|exact O9 (by assumption) (by assumption))) (first|(go_at_call 207;refine(CB.o _).mono ?_;rintro e w1 ⟨rfl,hg1⟩;have hz1:=HZ.o.grow (jJ hg1);obtain⟨z0,z1,z2,z3,z4,z5,z6,z7,z8,z9,z10⟩:=hz1.cells;have zf:=hz1.f))
 have HZ1:=ae hz1;have dR:=ae (ak HG.o (jJ hg1));clear z0 z1 z2 z3 z4 z5 z6 z7 z8 z9 z10 zf hz1 hg1 e0 e1 e2 e3 e4 e5;go_wp2;have hrw:=HZ1.o;unfold SZ at hrw;have hb:=HB.o;refine bodyPost_ret (results_cell_row rfl _ _ (A+1) 221 #[.int .i64 a,.int .i64 b,.int .i64 c,.string P,.string ⟨#[]⟩,.int .i64 x,.int .i64 y,.int .i64 z,.string ⟨#[48]⟩,.string ⟨#[]⟩,.bool false] (0,0) _ rfl ?_ underlying221 rfl (by kernel_rfl)) rfl ⟨rfl,by repeat (first|refine uM ?_ (by omega)|exact dR.o)⟩;simp[World.setCell,Array.getElem?_modify,hrw]
theorem Cj(w:World) :
  Calls prog 130 #[] w fun e w'=>e=.returned (.agg #[.int .i64 0,.int .i64 0,.int .i64 0,.string ⟨#[48]⟩,.string ⟨#[]⟩])/\w.grownBy w' none:=by
 go_enter func130,ntmps130;go_wp2;refine bodyPost_ret (results_cell_row rfl _ _ w.heap.size 84 #[.int .i64 0,.int .i64 0,.int .i64 0,.string ⟨#[48]⟩,.string ⟨#[]⟩] (0,0) _ rfl ?_ underlying84 rfl (by kernel_rfl)) rfl ⟨rfl,aH (ax w none) _⟩;exact heap_alloc_new w _
theorem afg(a b c n x1 x2 x3 y1 y2 y3:Int)(P x4 x5 y4 y5:ByteArray)(o:Bool)(w:World)(CN:∀w,Calls prog 183 #[.agg #[.int .i64 a,.int .i64 b,.int .i64 c,.string P,.string ⟨#[]⟩,.int .i64 n]] w fun e w'=>e=.returned (.agg #[.int .i64 x1,.int .i64 x2,.int .i64 x3,.string x4,.string x5,.int .i64 y1,.int .i64 y2,.int .i64 y3,.string y4,.string y5,.bool o])/\w.grownBy w' none) :
  Calls prog 180 #[.agg #[.int .i64 a,.int .i64 b,.int .i64 c,.string P,.string ⟨#[]⟩,.int .i64 n]] w fun e w'=>e=.returned (.agg #[.int .i64 0,.int .i64 0,.int .i64 0,.string ⟨#[48]⟩,.string ⟨#[]⟩,.int .i64 y1,.int .i64 y2,.int .i64 y3,.string y4,.string y5,.bool o])/\w.grownBy w' none:=by
 have HN:=ae CN;have HL:=ae Cj;clear CN;go_enter func180,ntmps180;go_wp2_with (go_at_call 183;refine(HN.o _).mono ?_);rintro e w1 ⟨rfl,hg⟩;obtain⟨A,hA⟩:=zN (w.heap.size);obtain⟨HV,HZ,HG,HB⟩:=Ci hA hg
 try rw[hA]
 clear hA hg;go_wp2_with (fail);obtain⟨C,hC⟩:=zN (w1.heap.size);obtain⟨W,hW⟩:=zN (w1.alloc (.cells #[.int .i64 x1,.int .i64 x2,.int .i64 x3,.string x4,.string x5,.int .i64 y1,.int .i64 y2,.int .i64 y3,.string y4,.string y5,.bool o] 221));have hgW:w1.grownBy W none:=by rw[<-hW];exact aH (ax w1 none) _
 have Cm:=ae (HV.o.grow hgW);have pY:=ae (HZ.o.grow hgW);have nC:Hd (W.heap[C]?=some (.cells #[.int .i64 x1,.int .i64 x2,.int .i64 x3,.string x4,.string x5,.int .i64 y1,.int .i64 y2,.int .i64 y3,.string y4,.string y5,.bool o] 221 (0,0))):=by show _=_;rw[<-hW,<-hC];exact heap_alloc_new w1 _
 have dR:=ae (ak HG.o hgW);have je:Hd (w.heap.size<=A/\A+1<C/\C<W.heap.size):=by refine⟨HB.o.1,?_,(bJ nC.o)⟩;rw[<-hC];exact HB.o.2
 clear hgW HV HZ HG HB
 try rw[hW]
 try rw[hC]
 clear hW hC;go_wp2_with (go_at_call 130;refine(HL.o _).mono ?_);rintro e w2 ⟨rfl,hg⟩;have HZ2:=ae (pY.o.grow hg);have HC2:Hd (w2.heap[C]?=some (.cells #[.int .i64 x1,.int .i64 x2,.int .i64 x3,.string x4,.string x5,.int .i64 y1,.int .i64 y2,.int .i64 y3,.string y4,.string y5,.bool o] 221 (0,0))):=by show _=_;rw[hg.block C je.o.2.2 (by simp)];exact nC.o
 have HG2:=ae (ak dR.o hg);clear hg Cm pY nC dR;obtain⟨c0,c1,c2,c3,c4,c5,c6,c7,c8,c9,c10⟩:=JF HC2.o;have cf:=Lib.frozen_of_heap HC2.o;obtain⟨z0,z1,z2,z3,z4,z5,z6,z7,z8,z9,z10⟩:=HZ2.o.cells;have zf:=HZ2.o.f;have hcc:=je.o;have n1:¬(A+1=C):=by omega
 have n2:¬(C=A+1):=by omega
 have n3:¬(A=C):=by omega
 have n4:¬(C=A):=by omega
 clear hcc;go_wp2;have hrw:=HZ2.o;unfold SZ at hrw;have hb:=je.o;refine bodyPost_ret (results_cell_row rfl _ _ (A+1) 221 #[.int .i64 0,.int .i64 0,.int .i64 0,.string ⟨#[48]⟩,.string ⟨#[]⟩,.int .i64 y1,.int .i64 y2,.int .i64 y3,.string y4,.string y5,.bool o] (0,0) _ rfl ?_ underlying221 rfl (by kernel_rfl)) rfl ⟨rfl,by repeat (first|refine uM ?_ (by omega)|exact HG2.o)⟩;simp[World.setCell,Array.getElem?_modify,hrw,n2]
theorem afh(a b c n x1 x2 x3 y1 y2 y3:Int)(P x4 x5 y4 y5:ByteArray)(w:World)(CN:∀w,Calls prog 183 #[.agg #[.int .i64 a,.int .i64 b,.int .i64 c,.string P,.string ⟨#[]⟩,.int .i64 n]] w fun e w'=>e=.returned (.agg #[.int .i64 x1,.int .i64 x2,.int .i64 x3,.string x4,.string x5,.int .i64 y1,.int .i64 y2,.int .i64 y3,.string y4,.string y5,.bool true])/\w.grownBy w' none) :
  Calls prog 181 #[.agg #[.int .i64 a,.int .i64 b,.int .i64 c,.string P,.string ⟨#[]⟩,.int .i64 n]] w fun e w'=>e=.returned (.agg #[.int .i64 0,.int .i64 0,.int .i64 0,.string ⟨#[48]⟩,.string ⟨#[]⟩,.int .i64 0,.int .i64 0,.int .i64 0,.string ⟨#[48]⟩,.string ⟨#[]⟩,.bool false])/\w.grownBy w' none:=by
 have HN:=ae CN;have HL:=ae Cj;clear CN;go_enter func181,ntmps181;go_wp2_with (go_at_call 183;refine(HN.o _).mono ?_);rintro e w1 ⟨rfl,hg⟩;obtain⟨A,hA⟩:=zN (w.heap.size);obtain⟨HV,HZ,HG,HB⟩:=Ci hA hg
 try rw[hA]
 clear hA hg;go_wp2_with (fail);obtain⟨C,hC⟩:=zN (w1.heap.size);obtain⟨W,hW⟩:=zN (w1.alloc (.cells #[.int .i64 x1,.int .i64 x2,.int .i64 x3,.string x4,.string x5,.int .i64 y1,.int .i64 y2,.int .i64 y3,.string y4,.string y5,.bool true] 221));have hgW:w1.grownBy W none:=by rw[<-hW];exact aH (ax w1 none) _
 have Cm:=ae (HV.o.grow hgW);have pY:=ae (HZ.o.grow hgW);have nC:Hd (W.heap[C]?=some (.cells #[.int .i64 x1,.int .i64 x2,.int .i64 x3,.string x4,.string x5,.int .i64 y1,.int .i64 y2,.int .i64 y3,.string y4,.string y5,.bool true] 221 (0,0))):=by show _=_;rw[<-hW,<-hC];exact heap_alloc_new w1 _
 have dR:=ae (ak HG.o hgW);have je:Hd (w.heap.size<=A/\A+1<C/\C<W.heap.size):=by refine⟨HB.o.1,?_,(bJ nC.o)⟩;rw[<-hC];exact HB.o.2
 clear hgW HV HZ HG HB
 try rw[hW]
 try rw[hC]
 clear hW hC;obtain⟨c0,c1,c2,c3,c4,c5,c6,c7,c8,c9,c10⟩:=JF nC.o;have cf:=Lib.frozen_of_heap nC.o;go_wp2_with (go_at_call 130;refine(HL.o _).mono ?_);rintro e w2 ⟨rfl,hg⟩;have HZ2:=ae (pY.o.grow hg);have HG2:=ae (ak dR.o hg);clear hg Cm pY nC dR c0 c1 c2 c3 c4 c5 c6 c7 c8 c9 c10 cf;go_wp2_with (go_at_call 130;refine(HL.o _).mono ?_);rintro e w3 ⟨rfl,hg⟩;have HZ3:=ae (HZ2.o.grow hg);have aU:=ae (ak HG2.o hg);clear hg HZ2 HG2;obtain⟨z0,z1,z2,z3,z4,z5,z6,z7,z8,z9,z10⟩:=HZ3.o.cells;have zf:=HZ3.o.f;go_wp2;have hrw:=HZ3.o;unfold SZ at hrw;have hb:=je.o;refine bodyPost_ret (results_cell_row rfl _ _ (A+1) 221 #[.int .i64 0,.int .i64 0,.int .i64 0,.string ⟨#[48]⟩,.string ⟨#[]⟩,.int .i64 0,.int .i64 0,.int .i64 0,.string ⟨#[48]⟩,.string ⟨#[]⟩,.bool false] (0,0) _ rfl ?_ underlying221 rfl (by kernel_rfl)) rfl ⟨rfl,by repeat (first|refine uM ?_ (by omega)|exact aU.o)⟩
 simp[World.setCell,Array.getElem?_modify,hrw]
theorem afi(a b c n x1 x2 x3 y1 y2 y3:Int)(P x4 x5 y4 y5:ByteArray)(w:World)(CN:∀w,Calls prog 183 #[.agg #[.int .i64 a,.int .i64 b,.int .i64 c,.string P,.string ⟨#[]⟩,.int .i64 n]] w fun e w'=>e=.returned (.agg #[.int .i64 x1,.int .i64 x2,.int .i64 x3,.string x4,.string x5,.int .i64 y1,.int .i64 y2,.int .i64 y3,.string y4,.string y5,.bool false])/\w.grownBy w' none) :
  Calls prog 181 #[.agg #[.int .i64 a,.int .i64 b,.int .i64 c,.string P,.string ⟨#[]⟩,.int .i64 n]] w fun e w'=>e=.returned (.agg #[.int .i64 y1,.int .i64 y2,.int .i64 y3,.string y4,.string y5,.int .i64 0,.int .i64 0,.int .i64 0,.string ⟨#[]⟩,.string ⟨#[]⟩,.bool true])/\w.grownBy w' none:=by
 have HN:=ae CN;have HL:=ae Cj;clear CN;go_enter func181,ntmps181;go_wp2_with (go_at_call 183;refine(HN.o _).mono ?_);rintro e w1 ⟨rfl,hg⟩;obtain⟨A,hA⟩:=zN (w.heap.size);obtain⟨HV,HZ,HG,HB⟩:=Ci hA hg
 try rw[hA]
 clear hA hg;obtain⟨C,hC⟩:=zN (w1.heap.size);obtain⟨W,hW⟩:=zN (w1.alloc (.cells #[.int .i64 x1,.int .i64 x2,.int .i64 x3,.string x4,.string x5,.int .i64 y1,.int .i64 y2,.int .i64 y3,.string y4,.string y5,.bool false] 221));have hgW:w1.grownBy W none:=by rw[<-hW];exact aH (ax w1 none) _
 have Cm:=ae (HV.o.grow hgW);have pY:=ae (HZ.o.grow hgW);have nC:Hd (W.heap[C]?=some (.cells #[.int .i64 x1,.int .i64 x2,.int .i64 x3,.string x4,.string x5,.int .i64 y1,.int .i64 y2,.int .i64 y3,.string y4,.string y5,.bool false] 221 (0,0))):=by show _=_;rw[<-hW,<-hC];exact heap_alloc_new w1 _
 have dR:=ae (ak HG.o hgW);have je:Hd (w.heap.size<=A/\A+1<C/\C<W.heap.size):=by refine⟨HB.o.1,?_,(bJ nC.o)⟩;rw[<-hC];exact HB.o.2
 clear hgW HV HZ HG HB;obtain⟨c0,c1,c2,c3,c4,c5,c6,c7,c8,c9,c10⟩:=JF nC.o;have cf:=Lib.frozen_of_heap nC.o;obtain⟨z0,z1,z2,z3,z4,z5,z6,z7,z8,z9,z10⟩:=pY.o.cells;have zf:=pY.o.f;have hcc:=je.o;have n1:¬(A+1=C):=by omega
 have n2:¬(C=A+1):=by omega
 have n3:¬(A=C):=by omega
 have n4:¬(C=A):=by omega
 clear hcc;go_wp2;have hrw:=pY.o;unfold SZ at hrw;have hb:=je.o;refine bodyPost_ret (results_cell_row rfl _ _ (A+1) 221 #[.int .i64 y1,.int .i64 y2,.int .i64 y3,.string y4,.string y5,.int .i64 0,.int .i64 0,.int .i64 0,.string ⟨#[]⟩,.string ⟨#[]⟩,.bool true] (0,0) _ rfl ?_ underlying221 rfl (by kernel_rfl)) rfl ⟨rfl,by repeat (first|refine uM ?_ (by omega)|exact dR.o)⟩;simp[World.setCell,Array.getElem?_modify,hrw,n2]
theorem afj(a' b' c' n':Int)(P':ByteArray)(a b c n x1 x2 x3 y1 y2 y3:Int)(P x4 x5 y4 y5:ByteArray)(o:Bool)(w:World)(CN:∀w,Calls prog 183 #[.agg #[.int .i64 a,.int .i64 b,.int .i64 c,.string P,.string ⟨#[]⟩,.int .i64 n]] w fun e w'=>e=.returned (.agg #[.int .i64 x1,.int .i64 x2,.int .i64 x3,.string x4,.string x5,.int .i64 y1,.int .i64 y2,.int .i64 y3,.string y4,.string y5,.bool o])/\w.grownBy w' none) :
  Calls prog 161 #[.agg #[.int .i64 a',.int .i64 b',.int .i64 c',.string P',.string ⟨#[]⟩,.int .i64 n'],.agg #[.int .i64 a,.int .i64 b,.int .i64 c,.string P,.string ⟨#[]⟩,.int .i64 n]] w fun e w'=>e=.returned (.agg #[.int .i64 a',.int .i64 b',.int .i64 c',.string P',.string ⟨#[]⟩,.int .i64 y1,.int .i64 y2,.int .i64 y3,.string y4,.string y5,.bool o])/\w.grownBy w' none:=by
 have HN:=ae CN;clear CN;go_enter func161,ntmps161;go_wp2_with (go_at_call 183;refine(HN.o _).mono ?_);rintro e w1 ⟨rfl,hg⟩;obtain⟨A,hA⟩:=zN (w.heap.size);have HV:Hd (PB A a' b' c' P' n' w1):=by
  refine PB.grow ?_ hg;unfold PB;rw[<-hA,Lib.alloc_old _ _ _ (by simp;omega),Lib.alloc_old _ _ _ (by simp)];exact heap_alloc_new w _
 have HZ:Hd (SZ (A+2) w1):=by
  refine SZ.grow ?_ hg;unfold SZ;rw[<-hA];exact XF w _ _ _
 have HG:=ae (ak (aH (aH (aH (ax w none) _) _) _) hg);have HB:Hd (w.heap.size<=A/\A+2<w1.heap.size):=⟨Nat.le_of_eq hA,(bJ HZ.o)⟩
 try rw[hA]
 clear hA hg;obtain⟨C,hC⟩:=zN (w1.heap.size);obtain⟨W,hW⟩:=zN (w1.alloc (.cells #[.int .i64 x1,.int .i64 x2,.int .i64 x3,.string x4,.string x5,.int .i64 y1,.int .i64 y2,.int .i64 y3,.string y4,.string y5,.bool o] 221));have hgW:w1.grownBy W none:=by rw[<-hW];exact aH (ax w1 none) _
 have Cm:=ae (HV.o.grow hgW);have pY:=ae (HZ.o.grow hgW);have nC:Hd (W.heap[C]?=some (.cells #[.int .i64 x1,.int .i64 x2,.int .i64 x3,.string x4,.string x5,.int .i64 y1,.int .i64 y2,.int .i64 y3,.string y4,.string y5,.bool o] 221 (0,0))):=by show _=_;rw[<-hW,<-hC];exact heap_alloc_new w1 _
 have dR:=ae (ak HG.o hgW);have je:Hd (w.heap.size<=A/\A+2<C/\C<W.heap.size):=by refine⟨HB.o.1,?_,(bJ nC.o)⟩;rw[<-hC];exact HB.o.2
 clear hgW HV HZ HG HB;obtain⟨c0,c1,c2,c3,c4,c5,c6,c7,c8,c9,c10⟩:=JF nC.o;have cf:=Lib.frozen_of_heap nC.o;obtain⟨z0,z1,z2,z3,z4,z5,z6,z7,z8,z9,z10⟩:=pY.o.cells;have zf:=pY.o.f;obtain⟨e0,e1,e2,e3,e4,e5⟩:=Cm.o.cells;have hcc:=je.o;have n1:¬(A+2=C):=by omega
 have n2:¬(C=A+2):=by omega
 have n3:¬(A=C):=by omega
 have n4:¬(C=A):=by omega
 clear hcc;go_wp2;have hrw:=pY.o;unfold SZ at hrw;have hb:=je.o;refine bodyPost_ret (results_cell_row rfl _ _ (A+2) 221 #[.int .i64 a',.int .i64 b',.int .i64 c',.string P',.string ⟨#[]⟩,.int .i64 y1,.int .i64 y2,.int .i64 y3,.string y4,.string y5,.bool o] (0,0) _ rfl ?_ underlying221 rfl (by kernel_rfl)) rfl ⟨rfl,by repeat (first|refine uM ?_ (by omega)|exact dR.o)⟩;simp[World.setCell,Array.getElem?_modify,hrw,n2]
theorem afk{p0 p1 p2 p3 p4 p5:Addr}{c0 c1 c2 c3 c4 c5:Value}(hg:w.grownBy w' none)(h:w.cell? p0=some c0/\w.cell? p1=some c1/\w.cell? p2=some c2/\w.cell? p3=some c3/\w.cell? p4=some c4/\w.cell? p5=some c5):w'.cell? p0=some c0/\w'.cell? p1=some c1/\w'.cell? p2=some c2/\w'.cell? p3=some c3/\w'.cell? p4=some c4/\w'.cell? p5=some c5:=by
 obtain⟨h0,h1,h2,h3,h4,h5⟩:=h;exact⟨hg.cell h0 (by simp),hg.cell h1 (by simp),hg.cell h2 (by simp),hg.cell h3 (by simp),hg.cell h4 (by simp),hg.cell h5 (by simp)⟩
theorem afl(a b c n3:Int)(P n4:ByteArray)(w:World)(CN:∀w,Calls prog 206 #[.agg #[.int .i64 a,.int .i64 b,.int .i64 c,.string P,.string ⟨#[]⟩]] w fun e w'=>e=.returned (.agg #[.int .i64 a,.int .i64 b,.int .i64 n3,.string n4,.string ⟨#[]⟩])/\w.grownBy w' none) :
  Calls prog 183 #[.agg #[.int .i64 a,.int .i64 b,.int .i64 c,.string P,.string ⟨#[]⟩,.int .i64 3]] w fun e w'=>e=.returned (.agg #[.int .i64 a,.int .i64 b,.int .i64 c,.string P,.string ⟨#[]⟩,.int .i64 a,.int .i64 b,.int .i64 n3,.string n4,.string ⟨#[]⟩,.bool false])/\w.grownBy w' none:=by
 have CB:=ae CN;clear CN;go_enter func183,ntmps183;go_wp2_with (fail);obtain⟨A,hA⟩:=zN (w.heap.size);obtain⟨W,hW⟩:=zN ((w.alloc (.cells #[.int .i64 a,.int .i64 b,.int .i64 c,.string P,.string ⟨#[]⟩,.int .i64 3] 226)).alloc (.cells #[.int .i64 0,.int .i64 0,.int .i64 0,.string ⟨#[]⟩,.string ⟨#[]⟩,.int .i64 0,.int .i64 0,.int .i64 0,.string ⟨#[]⟩,.string ⟨#[]⟩,.bool false] 221));obtain⟨HV,HZ,HG,HB⟩:=JE hA hW
 try rw[hW]
 try rw[hA]
 clear hW hA;obtain⟨e0,e1,e2,e3,e4,e5⟩:=HV.o.cells
 go_region_held3 (fun w'=>w'.cell? ⟨A,0,none⟩=some (.int .i64 a)/\w'.cell? ⟨A,1,none⟩=some (.int .i64 b)/\w'.cell? ⟨A,2,none⟩=some (.int .i64 c)/\w'.cell? ⟨A,3,none⟩=some (.string P)/\w'.cell? ⟨A,4,none⟩=some (.string ⟨#[]⟩)) ((first|(simp only[pX,cell_far (Nat.ne_of_lt (Nat.lt_succ_self A))];assumption)|(simp only[pX];exact⟨e0,e1,e2,e3,e4⟩)|exact O9 (by assumption) (by assumption))) (first|(go_at_call 206;refine(CB.o _).mono ?_;rintro e w1 ⟨rfl,hg1⟩;have hz1:=HZ.o.grow (jJ hg1);obtain⟨z0,z1,z2,z3,z4,z5,z6,z7,z8,z9,z10⟩:=hz1.cells;have zf:=hz1.f))
 have HZ1:=ae hz1;have dR:=ae (ak HG.o (jJ hg1));clear z0 z1 z2 z3 z4 z5 z6 z7 z8 z9 z10 zf hz1 hg1 e0 e1 e2 e3 e4 e5;go_wp2;have hrw:=HZ1.o;unfold SZ at hrw;have hb:=HB.o;refine bodyPost_ret (results_cell_row rfl _ _ (A+1) 221 #[.int .i64 a,.int .i64 b,.int .i64 c,.string P,.string ⟨#[]⟩,.int .i64 a,.int .i64 b,.int .i64 n3,.string n4,.string ⟨#[]⟩,.bool false] (0,0) _ rfl ?_ underlying221 rfl (by kernel_rfl)) rfl ⟨rfl,by repeat (first|refine uM ?_ (by omega)|exact dR.o)⟩;simp[World.setCell,Array.getElem?_modify,hrw]
theorem afm(a b c n x1 x2 x3 y1 y2 y3:Int)(P x4 x5 y4 y5:ByteArray)(o:Bool)(w:World)(hn:(n == 3)=false)(CN:∀w,Calls prog 185 #[.agg #[.int .i64 a,.int .i64 b,.int .i64 c,.string P,.string ⟨#[]⟩,.int .i64 n],.int .i64 n] w fun e w'=>e=.returned (.agg #[.int .i64 x1,.int .i64 x2,.int .i64 x3,.string x4,.string x5,.int .i64 y1,.int .i64 y2,.int .i64 y3,.string y4,.string y5,.bool o])/\w.grownBy w' none) :
  Calls prog 183 #[.agg #[.int .i64 a,.int .i64 b,.int .i64 c,.string P,.string ⟨#[]⟩,.int .i64 n]] w fun e w'=>e=.returned (.agg #[.int .i64 x1,.int .i64 x2,.int .i64 x3,.string x4,.string x5,.int .i64 y1,.int .i64 y2,.int .i64 y3,.string y4,.string y5,.bool o])/\w.grownBy w' none:=by
 have CB:=ae CN;clear CN;go_enter func183,ntmps183;go_wp2_with (go_at_call 185;refine(CB.o _).mono ?_);rintro e w1 ⟨rfl,hg⟩;obtain⟨A,hA⟩:=zN (w.heap.size);obtain⟨HV,HZ,HG,HB⟩:=Ci hA hg
 try rw[hA]
 clear hA hg;obtain⟨z0,z1,z2,z3,z4,z5,z6,z7,z8,z9,z10⟩:=HZ.o.cells;have zf:=HZ.o.f;go_wp2;have hrw:=HZ.o;unfold SZ at hrw;have hb:=HB.o;refine bodyPost_ret (results_cell_row rfl _ _ (A+1) 221 #[.int .i64 x1,.int .i64 x2,.int .i64 x3,.string x4,.string x5,.int .i64 y1,.int .i64 y2,.int .i64 y3,.string y4,.string y5,.bool o] (0,0) _ rfl ?_ underlying221 rfl (by kernel_rfl)) rfl ⟨rfl,by repeat (first|refine uM ?_ (by omega)|exact HG.o)⟩;simp[World.setCell,Array.getElem?_modify,hrw]
theorem afn(a b c n:Int)(P:ByteArray)(w:World) :
  Calls prog 182 #[.agg #[.int .i64 a,.int .i64 b,.int .i64 c,.string P,.string ⟨#[]⟩,.int .i64 n]] w fun e w'=>e=.returned (.agg #[.int .i64 0,.int .i64 0,.int .i64 0,.string ⟨#[48]⟩,.string ⟨#[]⟩,.int .i64 a,.int .i64 b,.int .i64 c,.string P,.string ⟨#[]⟩,.bool false])/\w.grownBy w' none:=by
 have CB:=ae Cj;go_enter func182,ntmps182;go_wp2_with (fail);obtain⟨A,hA⟩:=zN (w.heap.size);obtain⟨W,hW⟩:=zN ((w.alloc (.cells #[.int .i64 a,.int .i64 b,.int .i64 c,.string P,.string ⟨#[]⟩,.int .i64 n] 226)).alloc (.cells #[.int .i64 0,.int .i64 0,.int .i64 0,.string ⟨#[]⟩,.string ⟨#[]⟩,.int .i64 0,.int .i64 0,.int .i64 0,.string ⟨#[]⟩,.string ⟨#[]⟩,.bool false] 221));obtain⟨HV,HZ,HG,HB⟩:=JE hA hW
 try rw[hW]
 try rw[hA]
 clear hW hA;obtain⟨e0,e1,e2,e3,e4,e5⟩:=HV.o.cells
 go_region_held3 (fun w'=>w'.cell? ⟨A,0,none⟩=some (.int .i64 a)/\w'.cell? ⟨A,1,none⟩=some (.int .i64 b)/\w'.cell? ⟨A,2,none⟩=some (.int .i64 c)/\w'.cell? ⟨A,3,none⟩=some (.string P)/\w'.cell? ⟨A,4,none⟩=some (.string ⟨#[]⟩)) ((first|(simp only[pX,cell_far (Nat.ne_of_lt (Nat.lt_succ_self A))];assumption)|(simp only[pX];exact⟨e0,e1,e2,e3,e4⟩)|exact O9 (by assumption) (by assumption))) (first|(go_at_call 130;refine(CB.o _).mono ?_;rintro e w1 ⟨rfl,hg1⟩;have hz1:=HZ.o.grow (jJ hg1);obtain⟨z0,z1,z2,z3,z4,z5,z6,z7,z8,z9,z10⟩:=hz1.cells;have zf:=hz1.f))
 have HZ1:=ae hz1;have dR:=ae (ak HG.o (jJ hg1));clear z0 z1 z2 z3 z4 z5 z6 z7 z8 z9 z10 zf hz1 hg1 e0 e1 e2 e3 e4 e5;go_wp2;have hrw:=HZ1.o;unfold SZ at hrw;have hb:=HB.o;refine bodyPost_ret (results_cell_row rfl _ _ (A+1) 221 #[.int .i64 0,.int .i64 0,.int .i64 0,.string ⟨#[48]⟩,.string ⟨#[]⟩,.int .i64 a,.int .i64 b,.int .i64 c,.string P,.string ⟨#[]⟩,.bool false] (0,0) _ rfl ?_ underlying221 rfl (by kernel_rfl)) rfl ⟨rfl,by repeat (first|refine uM ?_ (by omega)|exact dR.o)⟩;simp[World.setCell,Array.getElem?_modify,hrw]
theorem afo(a b c n k x1 x2 x3 y1 y2 y3:Int)(P x4 x5 y4 y5:ByteArray)(o:Bool)(w:World)(hnk:n=0/\k=0\/n=1/\k=1\/n=2/\k=2\/n=3/\k=2)(CN:∀w,Calls prog 185 #[.agg #[.int .i64 a,.int .i64 b,.int .i64 c,.string P,.string ⟨#[]⟩,.int .i64 n],.int .i64 k] w fun e w'=>e=.returned (.agg #[.int .i64 x1,.int .i64 x2,.int .i64 x3,.string x4,.string x5,.int .i64 y1,.int .i64 y2,.int .i64 y3,.string y4,.string y5,.bool o])/\w.grownBy w' none) :
  Calls prog 187 #[.agg #[.int .i64 a,.int .i64 b,.int .i64 c,.string P,.string ⟨#[]⟩,.int .i64 n]] w fun e w'=>e=.returned (.agg #[.int .i64 x1,.int .i64 x2,.int .i64 x3,.string x4,.string x5,.int .i64 y1,.int .i64 y2,.int .i64 y3,.string y4,.string y5,.bool o])/\w.grownBy w' none:=by
 rcases hnk with⟨rfl,rfl⟩|⟨rfl,rfl⟩|⟨rfl,rfl⟩|⟨rfl,rfl⟩
 all_goals (
  have CB:=ae CN;clear CN;go_enter func187,ntmps187;go_wp2_with (go_at_call 185;refine(CB.o _).mono ?_);rintro e w1 ⟨rfl,hg⟩;obtain⟨A,hA⟩:=zN (w.heap.size);obtain⟨HV,HZ,HG,HB⟩:=Ci hA hg
  try rw[hA]
  clear hA hg;obtain⟨z0,z1,z2,z3,z4,z5,z6,z7,z8,z9,z10⟩:=HZ.o.cells;have zf:=HZ.o.f;go_wp2;have hrw:=HZ.o;unfold SZ at hrw;have hb:=HB.o;refine bodyPost_ret (results_cell_row rfl _ _ (A+1) 221 #[.int .i64 x1,.int .i64 x2,.int .i64 x3,.string x4,.string x5,.int .i64 y1,.int .i64 y2,.int .i64 y3,.string y4,.string y5,.bool o] (0,0) _ rfl ?_ underlying221 rfl (by kernel_rfl)) rfl ⟨rfl,by repeat (first|refine uM ?_ (by omega)|exact HG.o)⟩;simp[World.setCell,Array.getElem?_modify,hrw])
theorem afp(k:Int)(a b c n x1 x2 x3 y1 y2 y3:Int)(P x4 x5 y4 y5:ByteArray)(o:Bool)(w:World)(CL:∀w,Calls prog 186 #[.agg #[.int .i64 a,.int .i64 b,.int .i64 c,.string P,.string ⟨#[]⟩,.int .i64 n]] w fun e w'=>e=.returned (.int .i64 k)/\w.grownBy w' none)(CN:∀w,Calls prog 185 #[.agg #[.int .i64 a,.int .i64 b,.int .i64 c,.string P,.string ⟨#[]⟩,.int .i64 n],.int .i64 k] w fun e w'=>e=.returned (.agg #[.int .i64 x1,.int .i64 x2,.int .i64 x3,.string x4,.string x5,.int .i64 y1,.int .i64 y2,.int .i64 y3,.string y4,.string y5,.bool o])/\w.grownBy w' none) :
  Calls prog 184 #[.agg #[.int .i64 a,.int .i64 b,.int .i64 c,.string P,.string ⟨#[]⟩,.int .i64 n]] w fun e w'=>e=.returned (.agg #[.int .i64 x1,.int .i64 x2,.int .i64 x3,.string x4,.string x5,.int .i64 y1,.int .i64 y2,.int .i64 y3,.string y4,.string y5,.bool o])/\w.grownBy w' none:=by
 have CB:=ae CN;have CE:=ae CL;clear CN CL;go_enter func184,ntmps184;go_wp2_with (fail);obtain⟨A,hA⟩:=zN (w.heap.size);obtain⟨W,hW⟩:=zN ((w.alloc (.cells #[.int .i64 a,.int .i64 b,.int .i64 c,.string P,.string ⟨#[]⟩,.int .i64 n] 226)).alloc (.cells #[.int .i64 0,.int .i64 0,.int .i64 0,.string ⟨#[]⟩,.string ⟨#[]⟩,.int .i64 0,.int .i64 0,.int .i64 0,.string ⟨#[]⟩,.string ⟨#[]⟩,.bool false] 221));obtain⟨HV,HZ,HG,HB⟩:=JE hA hW
 try rw[hW]
 try rw[hA]
 clear hW hA;obtain⟨e0,e1,e2,e3,e4,e5⟩:=HV.o.cells
 go_region_held3 (fun w'=>w'.cell? ⟨A,0,none⟩=some (.int .i64 a)/\w'.cell? ⟨A,1,none⟩=some (.int .i64 b)/\w'.cell? ⟨A,2,none⟩=some (.int .i64 c)/\w'.cell? ⟨A,3,none⟩=some (.string P)/\w'.cell? ⟨A,4,none⟩=some (.string ⟨#[]⟩)/\w'.cell? ⟨A,5,none⟩=some (.int .i64 n)) ((first|(simp only[pX,cell_far (Nat.ne_of_lt (Nat.lt_succ_self A))];assumption)|(simp only[pX];exact⟨e0,e1,e2,e3,e4,e5⟩)|exact afk (by assumption) (by assumption))) (first|(go_at_call 186;refine(CE.o _).mono ?_;rintro e w0 ⟨rfl,hg0⟩)|(go_at_call 185;refine(CB.o _).mono ?_;rintro e w1 ⟨rfl,hg1⟩;have hz1:=(HZ.o.grow (jJ hg0)).grow hg1;obtain⟨z0,z1,z2,z3,z4,z5,z6,z7,z8,z9,z10⟩:=hz1.cells;have zf:=hz1.f))
 have HZ1:=ae hz1;have dR:=ae (ak HG.o (ak (jJ hg0) hg1));clear hg0 z0 z1 z2 z3 z4 z5 z6 z7 z8 z9 z10 zf hz1 hg1 e0 e1 e2 e3 e4 e5;go_wp2;have hrw:=HZ1.o;unfold SZ at hrw;have hb:=HB.o;refine bodyPost_ret (results_cell_row rfl _ _ (A+1) 221 #[.int .i64 x1,.int .i64 x2,.int .i64 x3,.string x4,.string x5,.int .i64 y1,.int .i64 y2,.int .i64 y3,.string y4,.string y5,.bool o] (0,0) _ rfl ?_ underlying221 rfl (by kernel_rfl)) rfl ⟨rfl,by repeat (first|refine uM ?_ (by omega)|exact dR.o)⟩;simp[World.setCell,Array.getElem?_modify,hrw]
open Go.Joins
inductive Ld(ns:List Tn):Nat->Nat->Prop
 | top (p:Nat):ay ns p=0->Ld ns p 0
 | kid (p q d:Nat):ay ns q=1->q∈aA ns p->Ld ns p d->Ld ns q (d+1)
structure JG(pk:Int)(x:Tn):Prop where
 par:(pk=0/\Us x.ky/\0<=x.kd/\x.kd<=5)\/(pk=1/\x.ky=[]/\(x.kd=1\/x.kd=3\/x.kd=4\/x.kd=5))\/(pk=2/\x.ky=[]/\x.kd=0)
 txt:if x.kd=3 then Us x.tx else x.tx=[]
 num:if x.kd=4 then -1000000000000000000<x.nu/\x.nu<1000000000000000000 else if x.kd=5 then x.nu=0\/x.nu=1 else x.nu=0
theorem FQ{pk:Int}{k:List UInt8}{z:Int}(h:(pk=0/\Us k/\(z=0\/z=2))\/(pk=2/\k=[]/\z=0)):JG pk ⟨z,k,[],0,[],p⟩:=by
 have hz:z=0\/z=2:=by rcases h with⟨-,-,h⟩|⟨-,-,h⟩;exact h;exact Or.inl h
 refine⟨?_,?_,?_⟩
 ·rcases h with⟨h1,h2,h3⟩|⟨h1,h2,h3⟩
  ·exact Or.inl ⟨h1,h2,by show 0<=z;omega,by show z<=5;omega⟩
  ·exact Or.inr (Or.inr ⟨h1,h2,h3⟩)
 ·show if z=3 then _ else _;rw[if_neg (by omega)]
 ·show if z=4 then _ else _;rw[if_neg (by omega),if_neg (by show ¬z=5;omega)]
inductive Live(ns:List Tn):Nat->Prop
 | root:Live ns 0
 | kid (p q:Nat):Live ns p->q∈aA ns p->(ay ns p=2->∀b∈aA ns p,b<=q)->Live ns q
inductive sJ(ns:List Tn)(a:Nat):Nat->Prop
 | self:sJ ns a a
 | kid (p q:Nat):sJ ns a p->q∈aA ns p->sJ ns a q
structure Pg(n:Nat)(ns:List Tn)(up:Nat)(x:Tn):Prop where
 ks:x.ks=[]
 ky:x.ky.length<=n
 tx:x.tx.length<=n
 nu:-1000000000000000000<=x.nu/\x.nu<=1000000000000000000
 free:ay ns up=0->aK ns up x.ky=none
 two:ay ns up=2->x.kd=0
 shp:JG (ay ns up) x
 dep:x.kd=1->∃d,d<8/\Ld ns up d
 lv:Live ns up
inductive GrT(n:Nat):List Tn->List Tn->Nat->Prop
 | refl (ns:List Tn):GrT n ns ns 0
 | add (ns ns':List Tn) (m up:Nat) (x:Tn):GrT n ns ns' m->up<ns'.length->Pg n ns' up x->GrT n ns (addN ns' up x) (m+x.ky.length)
theorem GrT.trans(h:GrT n a b m){c:List Tn}{m':Nat}(h':GrT n b c m'):GrT n a c (m+m'):=by
 induction h' with
 |refl=>exact h
 |add ns' m up x h1 h2 h3 ih=>rw[<-Nat.add_assoc];exact GrT.add _ _ _ _ _ ih h2 h3
theorem GrT.one{up:Nat}{x:Tn}(hu:up<ns.length)(h:Pg n ns up x):GrT n ns (addN ns up x) x.ky.length:=by
 have:=GrT.add ns ns 0 up x (GrT.refl ns) hu h
 rwa [Nat.zero_add]at this
theorem GrT.len(h:GrT n a b m):a.length<=b.length:=by
 induction h with
 |refl=>exact Nat.le_refl _
 |add ns' m up x h1 h2 h3 ih=>rw[bW];omega
theorem GrT.kd(h:GrT n a b m)(hq:q<a.length):ay b q=ay a q:=by
 induction h with
 |refl=>rfl
 |add ns' m up x h1 h2 h3 ih=>
  have:=h1.len;rw[eX _ _ _ h2,if_neg (by omega)];exact ih
theorem Ld.lt(h:Ld ns p d):p<ns.length:=by
 induction h with
 |top p h=>exact oO h (by decide)
 |kid p q d h1 h2 h3 _=>exact oO h1 (by decide)
theorem Ld.addN{up:Nat}{x:Tn}(hu:up<ns.length)(h:Ld ns p d):Ld (addN ns up x) p d:=by
 induction h with
 |top p h=>exact Ld.top p (by rw[eX ns up x hu,if_neg (by have:=oO h (by decide);omega)];exact h)
 |kid p q d h1 h2 h3 ih=>
  have hq:=oO h1 (by decide);have hp:=h3.lt;refine Ld.kid p q d (by rw[eX ns up x hu,if_neg (by omega)];exact h1) ?_ ih;rw[jR ns up x hu,if_neg (by omega)];split
  ·rename_i e;rw[<-e];simp[h2]
  ·exact h2
theorem GrT.ld(h:GrT n a b m)(hl:Ld a p d):Ld b p d:=by
 induction h with
 |refl=>exact hl
 |add ns' m up x h1 h2 h3 ih=>exact ih.addN h2
structure Tv(n:Nat)(ns:List Tn)(S:Nat):Prop where
 lt:∀p q,q∈aA ns p->q<ns.length
 gt:∀p q,q∈aA ns p->p<q
 nod:∀p,(aA ns p).Nodup
 kdd:∀t,ay ns t=0->KD ns t
 two:∀t q,ay ns t=2->q∈aA ns t->ay ns q=0
 root:0<ns.length/\ay ns 0=0
 txt:∀x∈ns,x.ky.length<=n/\x.tx.length<=n/\-1000000000000000000<=x.nu/\x.nu<=1000000000000000000
 sum:(ns.map fun x=>x.ky.length).sum<=S
 shp:∀p q,q∈aA ns p->∀x,ns[q]?=some x->JG (ay ns p) x
 dep:∀p q,q∈aA ns p->ay ns q=1->∃d,d<8/\Ld ns p d
 par:∀q,0<q->q<ns.length->∃p,q∈aA ns p
 rt:∀x,ns[0]?=some x->x.ky=[]/\x.tx=[]/\x.nu=0
 uni:∀p p' q,q∈aA ns p->q∈aA ns p'->p=p'
 inc:∀p,(aA ns p).Pairwise (· < ·)
 sep:∀p a b q,ay ns p=2->a∈aA ns p->b∈aA ns p->a<b->sJ ns a q->q<b
theorem sK{up:Nat}{x:Tn}(hu:up<ns.length)(hx:x.ks=[]):q∈aA (addN ns up x) p↔(p=up/\q=ns.length)\/q∈aA ns p:=by
 rw[jR ns up x hu,hx]
 by_cases h1:p=ns.length
 ·rw[if_pos h1,h1,Ba ns _ (Nat.le_refl _)];exact⟨fun h=>(by cases h),fun h=>(by rcases h with⟨e,-⟩|h;omega;cases h)⟩
 ·rw[if_neg h1]
  by_cases h2:p=up
  ·rw[if_pos h2,h2,List.mem_append,List.mem_singleton];exact⟨fun h=>h.elim Or.inr (fun h=>Or.inl ⟨rfl,h⟩),fun h=>h.elim (fun h=>Or.inr h.2) Or.inl⟩
  ·rw[if_neg h2];exact⟨Or.inr,fun h=>h.elim (fun h=>absurd h.1 h2) id⟩
theorem XG{up:Nat}{x:Tn}(hu:up<ns.length)(hx:x.ks=[])(gt:∀p q,q∈aA ns p->p<q){r:Nat}(h:Live ns r)(hr:r<=up\/¬ay ns up=2):Live (addN ns up x) r:=by
 induction h with
 |root=>exact Live.root
 |kid p q h1 h2 h3 ih=>
  have hg:=gt p q h2;refine Live.kid p q (ih (by omega)) ((sK hu hx).2 (Or.inr h2)) fun hk b hb=>?_
  rw[eX ns up x hu]at hk;have hp:=EM h2;rw[if_neg (by omega)]at hk
  rcases(sK hu hx).1 hb with⟨e,-⟩|hb
  ·rcases hr with hr|hr
   ·omega
   ·rw[e]at hk;exact absurd hk hr
  ·exact h3 hk b hb
theorem CJ{up:Nat}{x:Tn}(hu:up<ns.length)(hx:x.ks=[])(gt:∀p q,q∈aA ns p->p<q)(lt:∀p q,q∈aA ns p->q<ns.length)(h:Live ns up):Live (addN ns up x) ns.length:=by
 refine Live.kid up _ (XG hu hx gt h (Or.inl (Nat.le_refl _))) ((sK hu hx).2 (Or.inl ⟨rfl,rfl⟩)) fun _ b hb=>?_
 rcases(sK hu hx).1 hb with⟨-,e⟩|hb
 ·omega
 ·have:=lt _ _ hb;omega
theorem afq(gt:∀p q,q∈aA ns p->p<q)(uni:∀p p' q,q∈aA ns p->q∈aA ns p'->p=p'){a up:Nat}(hk:ay ns p=2)(ha:a∈aA ns p)(h:Live ns up)(hd:sJ ns a up):∀b∈aA ns p,b<=a:=by
 induction h with
 |root=>
  cases hd with
  |self=>exact absurd (gt _ _ ha) (by omega)
  |kid p' _ _ h2=>exact absurd (gt _ _ h2) (by omega)
 |kid p' q h1 h2 h3 ih=>
  cases hd with
  |self=>
   have:=uni _ _ _ ha h2;subst this;exact h3 hk
  |kid p'' _ g1 g2=>
   have:=uni _ _ _ g2 h2;subst this;exact ih g1
theorem JH(ns:List Tn)(up:Nat)(n:Tn)(hu:up<ns.length)(p:Nat):ja (addN ns up n) p=if p=ns.length then n.ky else ja ns p:=by
 unfold ja;rw[vP ns up n hu]
 by_cases h:p=ns.length
 ·simp only[if_pos h]
 ·simp only[if_neg h]
  by_cases h2:p=up
  ·subst h2;simp only[if_true];rw[List.getElem?_eq_getElem hu]
  ·simp only[if_neg h2]
theorem afr(ns:List Tn)(up:Nat)(x:Tn)(hu:up<ns.length):((addN ns up x).map fun y=>y.ky.length)=(ns.map fun y=>y.ky.length)++[x.ky.length]:=by
 apply List.ext_getElem?;intro i;rw[List.getElem?_map,vP ns up x hu]
 by_cases h:i=ns.length
 ·rw[if_pos h,List.getElem?_append_right (by simp[h]),h];simp
 ·rw[if_neg h]
  by_cases h2:i=up
  ·rw[if_pos h2,List.getElem?_append_left (by rw[List.length_map,h2];exact hu),List.getElem?_map,h2,List.getElem?_eq_getElem hu];rfl
  ·rw[if_neg h2]
   by_cases h3:i<ns.length
   ·rw[List.getElem?_append_left (by rw[List.length_map];exact h3),List.getElem?_map]
   ·rw[List.getElem?_eq_none (by omega),List.getElem?_append_right (by rw[List.length_map];omega)];rw[List.length_map,List.getElem?_eq_none (by simp;omega)];rfl
theorem Tv.add{up:Nat}{x:Tn}(T:Tv n ns S)(hu:up<ns.length)(h:Pg n ns up x):Tv n (addN ns up x) (S+x.ky.length) where
 lt:=fun p q hq=>by
  rw[jR ns up x hu,h.ks]at hq;rw[bW];split at hq
  ·cases hq
  ·split at hq
   ·rw[List.mem_append,List.mem_singleton]at hq
    rcases hq with hq|rfl
    ·have:=T.lt _ _ hq;omega
    ·omega
   ·have:=T.lt _ _ hq;omega
 gt:=fun p q hq=>by
  rw[jR ns up x hu,h.ks]at hq;split at hq
  ·cases hq
  ·split at hq
   ·rename_i e;rw[List.mem_append,List.mem_singleton]at hq
    rcases hq with hq|rfl
    ·rw[e];exact T.gt _ _ hq
    ·omega
   ·exact T.gt _ _ hq
 nod:=fun p=>by
  rw[jR ns up x hu,h.ks];split
  ·exact List.nodup_nil
  ·split
   ·rw[List.nodup_append];refine⟨T.nod up,by simp,fun a ha b hb hab=>?_⟩;rw[List.mem_singleton]at hb;subst hab hb;have:=T.lt _ _ ha;omega
   ·exact T.nod p
 kdd:=fun t ht=>by
  rw[eX ns up x hu]at ht;unfold KD;rw[jR ns up x hu,h.ks];split
  ·exact List.Pairwise.nil
  ·rename_i hne;rw[if_neg hne]at ht;have old:∀p,ay ns p=0->(aA ns p).Pairwise fun a b=>ja (addN ns up x) a≠ja (addN ns up x) b:=fun p hp=>by
    refine List.Pairwise.imp_of_mem ?_ (T.kdd p hp);intro a b ha hb hab;have h1:=T.lt _ _ ha;have h2:=T.lt _ _ hb;rw[JH ns up x hu,JH ns up x hu,if_neg (by omega),if_neg (by omega)];exact hab
   split
   ·rename_i e;rw[e]at ht;rw[List.pairwise_append];refine⟨old up ht,List.pairwise_singleton _ _,fun a ha b hb=>?_⟩;rw[List.mem_singleton]at hb;subst hb;have h1:=T.lt _ _ ha;rw[JH ns up x hu,JH ns up x hu,if_neg (by omega),if_pos rfl,TR h1];have hf:=h.free ht;rw[qI,List.find?_eq_none]at hf;have:=hf a ha;unfold iC at this;rw[List.getElem?_eq_getElem h1]at this;simpa using this
   ·exact old t ht
 two:=fun t q ht hq=>by
  rw[eX ns up x hu]at ht;rw[jR ns up x hu,h.ks]at hq;split at hq
  ·cases hq
  ·rename_i hne;rw[if_neg hne]at ht;rw[eX ns up x hu];split at hq
   ·rename_i e;rw[e]at ht;rw[List.mem_append,List.mem_singleton]at hq
    rcases hq with hq|rfl
    ·have:=T.lt _ _ hq;rw[if_neg (by omega)];exact T.two _ _ ht hq
    ·rw[if_pos rfl];exact h.two ht
   ·have:=T.lt _ _ hq;rw[if_neg (by omega)];exact T.two _ _ ht hq
 root:=by
  rw[bW,eX ns up x hu,if_neg (by have:=T.root.1;omega)];exact⟨by omega,T.root.2⟩
 txt:=fun y hy=>by
  rw[List.mem_iff_getElem?]at hy;obtain⟨i,hi⟩:=hy;rw[vP ns up x hu]at hi;split at hi
  ·cases hi
   exact⟨h.ky,h.tx,h.nu⟩
  ·split at hi
   ·cases hi
    exact T.txt ns[up] (List.getElem_mem hu)
   ·exact T.txt y (List.mem_of_getElem? hi)
 sum:=by
  rw[afr ns up x hu,List.sum_append];have:=T.sum;simp;omega
 shp:=fun p q hq y hy=>by
  have old:∀p q y,q∈aA ns p->(addN ns up x)[q]?=some y->JG (ay ns p) y:=fun p q y hq hy=>by
   have h1:=T.lt _ _ hq;rw[vP ns up x hu,if_neg (by omega)]at hy;split at hy
   ·rename_i e;have h2:=T.shp p q hq ns[up] (by rw[e];exact List.getElem?_eq_getElem hu)
    cases hy
    exact⟨h2.par,h2.txt,h2.num⟩
   ·exact T.shp p q hq y hy
  rw[jR ns up x hu,h.ks]at hq;rw[eX ns up x hu];split at hq
  ·cases hq
  ·rename_i hne;rw[if_neg hne];split at hq
   ·rename_i e;rw[List.mem_append,List.mem_singleton]at hq
    rcases hq with hq|rfl
    ·rw[e];exact old up q y hq hy
    ·rw[vP ns up x hu,if_pos rfl]at hy
     cases hy
     rw[e];exact h.shp
   ·exact old p q y hq hy
 dep:=fun p q hq hk=>by
  rw[jR ns up x hu,h.ks]at hq;rw[eX ns up x hu]at hk;split at hq
  ·cases hq
  ·split at hq
   ·rename_i e;rw[List.mem_append,List.mem_singleton]at hq
    rcases hq with hq|rfl
    ·rw[if_neg (by have:=T.lt _ _ hq;omega)]at hk;obtain⟨d,h1,h2⟩:=T.dep up q hq hk;rw[e];exact⟨d,h1,h2.addN hu⟩
    ·rw[if_pos rfl]at hk;obtain⟨d,h1,h2⟩:=h.dep hk;rw[e];exact⟨d,h1,h2.addN hu⟩
   ·rw[if_neg (by have:=T.lt _ _ hq;omega)]at hk;obtain⟨d,h1,h2⟩:=T.dep p q hq hk;exact⟨d,h1,h2.addN hu⟩
 par:=fun q h0 hq=>by
  rw[bW]at hq
  by_cases e:q=ns.length
  ·refine⟨up,?_⟩;rw[jR ns up x hu,if_neg (by omega),if_pos rfl,e];simp
  ·obtain⟨p,hp⟩:=T.par q h0 (by omega);refine⟨p,?_⟩;rw[jR ns up x hu,if_neg (fun e2=>by rw[e2,Ba ns _ (Nat.le_refl _)]at hp;cases hp)];split
   ·rename_i e2;rw[<-e2];simp[hp]
   ·exact hp
 rt:=fun y hy=>by
  have h0:=T.root.1;rw[vP ns up x hu,if_neg (by omega)]at hy;split at hy
  ·rename_i e;have h2:=T.rt ns[up] (by rw[e];exact List.getElem?_eq_getElem hu)
   cases hy
   exact h2
  ·exact T.rt y hy
 uni:=fun p p' q h1 h2=>by
  rcases(sK hu h.ks).1 h1 with⟨a1,a2⟩|a<;>rcases(sK hu h.ks).1 h2 with⟨b1,b2⟩|b
  ·rw[a1,b1]
  ·have:=T.lt _ _ b;omega
  ·have:=T.lt _ _ a;omega
  ·exact T.uni _ _ _ a b
 inc:=fun p=>by
  rw[jR ns up x hu,h.ks];split
  ·exact List.Pairwise.nil
  ·split
   ·rw[List.pairwise_append];exact⟨T.inc up,List.pairwise_singleton _ _,fun a ha b hb=>by rw[List.mem_singleton]at hb;rw[hb];exact T.lt _ _ ha⟩
   ·exact T.inc p
 sep:=fun p a b q hk ha hb hab hd=>by
  have hp:p<ns.length:=by
   have:=T.lt p
   rcases(sK hu h.ks).1 ha with⟨e,-⟩|ha
   ·omega
   ·exact EM ha
  rw[eX ns up x hu,if_neg (by omega)]at hk;have hal:a∈aA ns p:=by
   rcases(sK hu h.ks).1 ha with⟨e1,e2⟩|ha
   ·exfalso
    rcases(sK hu h.ks).1 hb with⟨-,e⟩|hb
    ·omega
    ·have:=T.lt _ _ hb;omega
   ·exact ha
  have key:∀q,sJ (addN ns up x) a q->(sJ ns a q/\q<ns.length)\/(q=ns.length/\sJ ns a up):=fun q hd=>by
   induction hd with
   |self=>exact Or.inl ⟨sJ.self,T.lt _ _ hal⟩
   |kid p' q' _ g2 ih=>
    rcases(sK hu h.ks).1 g2 with⟨e1,e2⟩|g3
    ·rcases ih with⟨i1,-⟩|⟨i1,-⟩
     ·exact Or.inr ⟨e2,by rw[<-e1];exact i1⟩
     ·omega
    ·rcases ih with⟨i1,-⟩|⟨i1,-⟩
     ·exact Or.inl ⟨sJ.kid _ _ i1 g3,T.lt _ _ g3⟩
     ·rw[i1,Ba ns _ (Nat.le_refl _)]at g3;cases g3
  rcases(sK hu h.ks).1 hb with⟨e1,e2⟩|hbl
  ·rcases key q hd with⟨-,k2⟩|⟨k1,k2⟩
   ·omega
   ·exfalso;have sN:=k2;have hle:up<a:=by rw[<-e1];exact T.gt _ _ hal
    have:∀r,sJ ns a r->a<=r:=fun r hr=>by
     induction hr with
     |self=>exact Nat.le_refl _
     |kid p' q' _ g2 ih=>have:=T.gt _ _ g2;omega
    have:=this _ sN;omega
  ·rcases key q hd with⟨k1,-⟩|⟨k1,k2⟩
   ·exact T.sep p a b q hk hal hbl hab k1
   ·have:=afq T.gt T.uni hk hal h.lv k2 b hbl;omega
theorem GrT.tv(h:GrT n a b m)(T:Tv n a S):Tv n b (S+m):=by
 induction h with
 |refl=>exact T
 |add ns' m up x h1 h2 h3 ih=>rw[<-Nat.add_assoc];exact ih.add h2 h3
theorem XH(n:Nat):Tv n [⟨0,[],[],0,[],0⟩] 0 where
 lt:=fun p q hq=>by
  cases p with
  |zero=>cases hq
  |succ p=>cases hq
 gt:=fun p q hq=>by
  cases p with
  |zero=>cases hq
  |succ p=>cases hq
 nod:=fun p=>by
  cases p with
  |zero=>exact List.nodup_nil
  |succ p=>exact List.nodup_nil
 kdd:=fun p _=>by
  cases p with
  |zero=>exact List.Pairwise.nil
  |succ p=>exact List.Pairwise.nil
 two:=fun p q _ hq=>by
  cases p with
  |zero=>cases hq
  |succ p=>cases hq
 root:=⟨by simp,rfl⟩
 txt:=fun x hx=>by
  rw[List.mem_singleton]at hx;subst hx;simp
 sum:=by simp
 shp:=fun p q hq=>by
  cases p with
  |zero=>cases hq
  |succ p=>cases hq
 dep:=fun p q hq=>by
  cases p with
  |zero=>cases hq
  |succ p=>cases hq
 par:=fun q h0 hq=>by
  simp at hq;omega
 rt:=fun x hx=>by
  cases hx
  exact⟨rfl,rfl,rfl⟩
 uni:=fun p p' q hq=>by
  cases p with
  |zero=>cases hq
  |succ p=>cases hq
 inc:=fun p=>by
  cases p with
  |zero=>exact List.Pairwise.nil
  |succ p=>exact List.Pairwise.nil
 sep:=fun p a b q _ ha=>by
  cases p with
  |zero=>cases ha
  |succ p=>cases ha
end Go.Proofs.YtbcfhgpfgdbjgaaGreatDoor
