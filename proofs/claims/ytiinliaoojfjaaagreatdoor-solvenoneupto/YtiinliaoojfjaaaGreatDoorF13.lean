import Derived.Test.YtiinliaoojfjaaaGreatDoorF07
import Derived.Test.YtiinliaoojfjaaaGreatDoorF08
set_option linter.all false
set_option maxRecDepth 100000
set_option maxHeartbeats 0
open Go.Proofs.Tryz
namespace Go.Proofs.YtiinliaoojfjaaaGreatDoor
open Go.RowKit
theorem ab9(w:World)(o1 o2:Obj):((w.alloc o1).alloc o2).heap[w.heap.size+1]?=some o2:=by
 have:=heap_alloc_new (w.alloc o1) o2;simpa using this
theorem row23(w:World)(o1 o2 o3:Obj):(((w.alloc o1).alloc o2).alloc o3).heap[w.heap.size+1]?=some o2:=by
 rw[Lib.alloc_old _ _ _ (by simp)];exact ab9 w o1 o2
theorem aca(a:ByteArray)(wx:World)(h:a.size<2 ^ 62):(Op.stringOp .add a ⟨#[46,48]⟩).run prog wx=.ok (.string ⟨(a.data.toList++[46,48]).toArray⟩) wx:=by
 have e:a=⟨a.data.toList.toArray⟩:=by cases a;simp
 rw[e,run_string_add_sum wx _ _ (by
  show a.data.toList.toArray.size+2<=_;have:a.data.toList.toArray.size=a.size:=by simp
  rw[this];omega)]
 rw[show(⟨#[46,48]⟩:ByteArray)=⟨[46,48].toArray⟩ from rfl,ByteArray.mk_append_mk]
theorem acb(a1 a2 a3:Int)(a4 a5:ByteArray)(w:World)(h4:a4.size≠0)(hs:a4.size<2 ^ 62) :
  Calls prog 227 #[.agg #[.int .i64 a1,.int .i64 a2,.int .i64 a3,.string a4,.string a5]] w fun e w'=>e=.returned (.agg #[.int .i64 a1,.int .i64 a2,.int .i64 a3,.string ⟨(a4.data.toList++[46,48]).toArray⟩,.string ⟨#[]⟩])/\w.grownBy w' none:=by
 have c1:=emp_f h4;obtain⟨X,hX⟩:∃X:ByteArray,X=⟨(a4.data.toList++[46,48]).toArray⟩:=⟨_,rfl⟩;have ad:∀wx,(Op.stringOp .add a4 ⟨#[46,48]⟩).run prog wx=.ok (.string X) wx:=fun wx=>by rw[hX];exact aca a4 wx hs
 rw[<-hX];clear hX h4;go_enter func227,ntmps227;go_wp2;exact bodyPost_ret (results_cell_row rfl _ _ (w.heap.size+1) 150 _ (0,0) _ rfl (row23 w _ _ _) underlying150 rfl (by kernel_rfl)) rfl ⟨rfl,ak (ak (ak (ai w none) _) _) _⟩
theorem acd(a1 a2 a3:Int)(a4 a5:ByteArray)(w:World)(h4:a4.size=0)(h3:a3<4611686018427387904)(h0:-9223372036854775808<=a3) :
  Calls prog 227 #[.agg #[.int .i64 a1,.int .i64 a2,.int .i64 a3,.string a4,.string a5]] w fun e w'=>e=.returned (.agg #[.int .i64 a1,.int .i64 a2,.int .i64 (a3+1),.string ⟨#[48]⟩,.string ⟨#[]⟩])/\w.grownBy w' none:=by
 have c1:=emp_t h4;have wr:IntKind.i64.wrap (a3+1)=a3+1:=by rw[IntKind.wrap_i64];omega
 clear h4;go_enter func227,ntmps227;go_wp2;exact bodyPost_ret (results_cell_row rfl _ _ (w.heap.size+1) 150 _ (0,0) _ rfl (row23 w _ _ _) underlying150 rfl (by kernel_rfl)) rfl ⟨rfl,ak (ak (ak (ai w none) _) _) _⟩
theorem ace(a1 a2 a3:Int)(a4 a5:ByteArray)(w:World)(h4:a4.size=0)(h3:¬a3<4611686018427387904) :
  Calls prog 227 #[.agg #[.int .i64 a1,.int .i64 a2,.int .i64 a3,.string a4,.string a5]] w fun e w'=>e=.returned (.agg #[.int .i64 a1,.int .i64 a2,.int .i64 a3,.string ⟨#[48]⟩,.string ⟨#[]⟩])/\w.grownBy w' none:=by
 have c1:=emp_t h4;clear h4;go_enter func227,ntmps227;go_wp2;exact bodyPost_ret (results_cell_row rfl _ _ (w.heap.size+1) 150 _ (0,0) _ rfl (row23 w _ _ _) underlying150 rfl (by kernel_rfl)) rfl ⟨rfl,ak (ak (ak (ai w none) _) _) _⟩
open Go.RowKit
theorem acf(a1 a2 a3:Int)(a4 a5:ByteArray)(hs:a4.size<2 ^ 62)(h0:-9223372036854775808<=a3) :
  ∃(n3:Int) (n4:ByteArray),n4.size<=a4.size+2/\(mF ⟨a1,a2,a3,a4.data.toList⟩=⟨a1,a2,n3,n4.data.toList⟩) ∧
   (∀w,Calls prog 227 #[.agg #[.int .i64 a1,.int .i64 a2,.int .i64 a3,.string a4,.string a5]] w fun e w'=>e=.returned (.agg #[.int .i64 a1,.int .i64 a2,.int .i64 n3,.string n4,.string ⟨#[]⟩])/\w.grownBy w' none):=by
 by_cases h4:a4.size=0
 ·have e:a4.data.toList=[]:=List.length_eq_zero_iff.1 (by simpa using h4)
  by_cases h3:a3<4611686018427387904
  ·refine⟨a3+1,⟨#[48]⟩,by show 1<=_;omega,?_,fun w=>acd a1 a2 a3 a4 a5 w h4 h3 h0⟩;unfold mF;rw[if_pos e,if_pos h3]
  ·refine⟨a3,⟨#[48]⟩,by show 1<=_;omega,?_,fun w=>ace a1 a2 a3 a4 a5 w h4 h3⟩;unfold mF;rw[if_pos e,if_neg h3]
 ·refine⟨a3,⟨(a4.data.toList++[46,48]).toArray⟩,?_,?_,fun w=>acb a1 a2 a3 a4 a5 w h4 hs⟩
  ·show(a4.data.toList++[46,48]).toArray.size<=_;simp
  ·unfold mF;rw[if_neg (fun e=>h4 (by have e':a4.data.toList=[]:=e;show a4.data.size=0;rw[<-Array.length_toList,e'];rfl))]
open Go.RowKit
theorem acg{p0 p1 p2 p3 p4 p5:Addr}{c0 c1 c2 c3 c4 c5:Value}{w w':World}(hg:w.grownBy w' none)(h:w.cell? p0=some c0/\w.cell? p1=some c1/\w.cell? p2=some c2/\w.cell? p3=some c3/\w.cell? p4=some c4/\w.cell? p5=some c5):w'.cell? p0=some c0/\w'.cell? p1=some c1/\w'.cell? p2=some c2/\w'.cell? p3=some c3/\w'.cell? p4=some c4/\w'.cell? p5=some c5:=by
 obtain⟨h0,h1,h2,h3,h4,h5⟩:=h;exact⟨hg.cell h0 (by simp),hg.cell h1 (by simp),hg.cell h2 (by simp),hg.cell h3 (by simp),hg.cell h4 (by simp),hg.cell h5 (by simp)⟩
theorem ach(a b c n3:Int)(P n4:ByteArray)(w:World)(CN:∀w,Calls prog 227 #[.agg #[.int .i64 a,.int .i64 b,.int .i64 c,.string P,.string ⟨#[]⟩]] w fun e w'=>e=.returned (.agg #[.int .i64 a,.int .i64 b,.int .i64 n3,.string n4,.string ⟨#[]⟩])/\w.grownBy w' none) :
  Calls prog 211 #[.agg #[.int .i64 a,.int .i64 b,.int .i64 c,.string P,.string ⟨#[]⟩,.int .i64 3]] w fun e w'=>e=.returned (.agg #[.int .i64 a,.int .i64 b,.int .i64 c,.string P,.string ⟨#[]⟩,.int .i64 a,.int .i64 b,.int .i64 n3,.string n4,.string ⟨#[]⟩,.bool false])/\w.grownBy w' none:=by
 have CB:=ae CN;clear CN;go_enter func211,ntmps211;go_wp2_with (fail);obtain⟨A,hA⟩:=zN (w.heap.size);obtain⟨W,hW⟩:=zN ((w.alloc (.cells #[.int .i64 a,.int .i64 b,.int .i64 c,.string P,.string ⟨#[]⟩,.int .i64 3] 247)).alloc (.cells #[.int .i64 0,.int .i64 0,.int .i64 0,.string ⟨#[]⟩,.string ⟨#[]⟩,.int .i64 0,.int .i64 0,.int .i64 0,.string ⟨#[]⟩,.string ⟨#[]⟩,.bool false] 203));have HV:Hd (PB A a b c P 3 W):=by
  show PB A a b c P 3 W;unfold PB;rw[<-hW,<-hA,Lib.alloc_old _ _ _ (by simp)];exact heap_alloc_new w _
 have HZ:Hd (SZ (A+1) W):=by
  show SZ (A+1) W;unfold SZ;rw[<-hW,<-hA];exact nT w _ _
 have HG:Hd (w.grownBy W none):=by show w.grownBy W none;rw[<-hW];exact ak (ak (ai w none) _) _
 have HB:Hd (w.heap.size<=A+1):=by show _<=_;omega
 try rw[hW]
 try rw[hA]
 clear hW hA;obtain⟨e0,e1,e2,e3,e4,e5⟩:=HV.o.cells
 go_region_held3 (fun w'=>w'.cell? ⟨A,0,none⟩=some (.int .i64 a)/\w'.cell? ⟨A,1,none⟩=some (.int .i64 b)/\w'.cell? ⟨A,2,none⟩=some (.int .i64 c)/\w'.cell? ⟨A,3,none⟩=some (.string P)/\w'.cell? ⟨A,4,none⟩=some (.string ⟨#[]⟩)) ((first|(simp only[lh,cell_far (Nat.ne_of_lt (Nat.lt_succ_self A))];assumption)|(simp only[lh];exact⟨e0,e1,e2,e3,e4⟩)|exact Ep (by assumption) (by assumption))) (first|(go_at_call 227;refine(CB.o _).mono ?_;rintro e w1 ⟨rfl,hg1⟩;have hz1:=HZ.o.grow (dF hg1);obtain⟨z0,z1,z2,z3,z4,z5,z6,z7,z8,z9,z10⟩:=hz1.cells;have zf:=hz1.f))
 have HZ1:=ae hz1;have bD:=ae (ag HG.o (dF hg1));clear z0 z1 z2 z3 z4 z5 z6 z7 z8 z9 z10 zf hz1 hg1 e0 e1 e2 e3 e4 e5;go_wp2;have hrw:=HZ1.o;unfold SZ at hrw;have hb:=HB.o;refine bodyPost_ret (results_cell_row rfl _ _ (A+1) 203 #[.int .i64 a,.int .i64 b,.int .i64 c,.string P,.string ⟨#[]⟩,.int .i64 a,.int .i64 b,.int .i64 n3,.string n4,.string ⟨#[]⟩,.bool false] (0,0) _ rfl ?_ underlying203 rfl (by kernel_rfl)) rfl ⟨rfl,by repeat (first|refine nR ?_ (by omega)|exact bD.o)⟩;simp[World.setCell,Array.getElem?_modify,hrw]
theorem aci(a b c n x1 x2 x3 y1 y2 y3:Int)(P x4 x5 y4 y5:ByteArray)(o:Bool)(w:World)(hn:(n == 3)=false)(CN:∀w,Calls prog 213 #[.agg #[.int .i64 a,.int .i64 b,.int .i64 c,.string P,.string ⟨#[]⟩,.int .i64 n],.int .i64 n] w fun e w'=>e=.returned (.agg #[.int .i64 x1,.int .i64 x2,.int .i64 x3,.string x4,.string x5,.int .i64 y1,.int .i64 y2,.int .i64 y3,.string y4,.string y5,.bool o])/\w.grownBy w' none) :
  Calls prog 211 #[.agg #[.int .i64 a,.int .i64 b,.int .i64 c,.string P,.string ⟨#[]⟩,.int .i64 n]] w fun e w'=>e=.returned (.agg #[.int .i64 x1,.int .i64 x2,.int .i64 x3,.string x4,.string x5,.int .i64 y1,.int .i64 y2,.int .i64 y3,.string y4,.string y5,.bool o])/\w.grownBy w' none:=by
 have CB:=ae CN;clear CN;go_enter func211,ntmps211;go_wp2_with (go_at_call 213;refine(CB.o _).mono ?_);rintro e w1 ⟨rfl,hg⟩;obtain⟨A,hA⟩:=zN (w.heap.size);have HV:Hd (PB A a b c P n w1):=by
  refine PB.grow (w:=(w.alloc (.cells #[.int .i64 a,.int .i64 b,.int .i64 c,.string P,.string ⟨#[]⟩,.int .i64 n] 247)).alloc (.cells #[.int .i64 0,.int .i64 0,.int .i64 0,.string ⟨#[]⟩,.string ⟨#[]⟩,.int .i64 0,.int .i64 0,.int .i64 0,.string ⟨#[]⟩,.string ⟨#[]⟩,.bool false] 203)) ?_ hg;unfold PB;rw[<-hA,Lib.alloc_old _ _ _ (by simp)];exact heap_alloc_new w _
 have HZ:Hd (SZ (A+1) w1):=by
  refine SZ.grow (w:=(w.alloc (.cells #[.int .i64 a,.int .i64 b,.int .i64 c,.string P,.string ⟨#[]⟩,.int .i64 n] 247)).alloc (.cells #[.int .i64 0,.int .i64 0,.int .i64 0,.string ⟨#[]⟩,.string ⟨#[]⟩,.int .i64 0,.int .i64 0,.int .i64 0,.string ⟨#[]⟩,.string ⟨#[]⟩,.bool false] 203)) ?_ hg;unfold SZ;rw[<-hA];exact nT w _ _
 have HG:=ae (ag (ak (ak (ai w none) _) _) hg);have HB:Hd (w.heap.size<=A/\A+1<w1.heap.size):=⟨Nat.le_of_eq hA,(aC HZ.o)⟩
 try rw[hA]
 clear hA hg;have z0:w1.cell? ⟨A+1,0,none⟩=some (.int .i64 0):=by rw[ah (show _=_ from HZ.o)];rfl
 have z1:w1.cell? ⟨A+1,1,none⟩=some (.int .i64 0):=by rw[ah (show _=_ from HZ.o)];rfl
 have z2:w1.cell? ⟨A+1,2,none⟩=some (.int .i64 0):=by rw[ah (show _=_ from HZ.o)];rfl
 have z3:w1.cell? ⟨A+1,3,none⟩=some (.string ⟨#[]⟩):=by rw[ah (show _=_ from HZ.o)];rfl
 have z4:w1.cell? ⟨A+1,4,none⟩=some (.string ⟨#[]⟩):=by rw[ah (show _=_ from HZ.o)];rfl
 have z5:w1.cell? ⟨A+1,5,none⟩=some (.int .i64 0):=by rw[ah (show _=_ from HZ.o)];rfl
 have z6:w1.cell? ⟨A+1,6,none⟩=some (.int .i64 0):=by rw[ah (show _=_ from HZ.o)];rfl
 have z7:w1.cell? ⟨A+1,7,none⟩=some (.int .i64 0):=by rw[ah (show _=_ from HZ.o)];rfl
 have z8:w1.cell? ⟨A+1,8,none⟩=some (.string ⟨#[]⟩):=by rw[ah (show _=_ from HZ.o)];rfl
 have z9:w1.cell? ⟨A+1,9,none⟩=some (.string ⟨#[]⟩):=by rw[ah (show _=_ from HZ.o)];rfl
 have z10:w1.cell? ⟨A+1,10,none⟩=some (.bool false):=by rw[ah (show _=_ from HZ.o)];rfl
 have zf:=HZ.o.f;go_wp2;have hrw:=HZ.o;unfold SZ at hrw;have hb:=HB.o;refine bodyPost_ret (results_cell_row rfl _ _ (A+1) 203 #[.int .i64 x1,.int .i64 x2,.int .i64 x3,.string x4,.string x5,.int .i64 y1,.int .i64 y2,.int .i64 y3,.string y4,.string y5,.bool o] (0,0) _ rfl ?_ underlying203 rfl (by kernel_rfl)) rfl ⟨rfl,by repeat (first|refine nR ?_ (by omega)|exact HG.o)⟩;simp[World.setCell,Array.getElem?_modify,hrw]
theorem acj(a b c n:Int)(P:ByteArray)(w:World) :
  Calls prog 210 #[.agg #[.int .i64 a,.int .i64 b,.int .i64 c,.string P,.string ⟨#[]⟩,.int .i64 n]] w fun e w'=>e=.returned (.agg #[.int .i64 0,.int .i64 0,.int .i64 0,.string ⟨#[48]⟩,.string ⟨#[]⟩,.int .i64 a,.int .i64 b,.int .i64 c,.string P,.string ⟨#[]⟩,.bool false])/\w.grownBy w' none:=by
 have CB:=ae AP;go_enter func210,ntmps210;go_wp2_with (fail);obtain⟨A,hA⟩:=zN (w.heap.size);obtain⟨W,hW⟩:=zN ((w.alloc (.cells #[.int .i64 a,.int .i64 b,.int .i64 c,.string P,.string ⟨#[]⟩,.int .i64 n] 247)).alloc (.cells #[.int .i64 0,.int .i64 0,.int .i64 0,.string ⟨#[]⟩,.string ⟨#[]⟩,.int .i64 0,.int .i64 0,.int .i64 0,.string ⟨#[]⟩,.string ⟨#[]⟩,.bool false] 203));have HV:Hd (PB A a b c P n W):=by
  show PB A a b c P n W;unfold PB;rw[<-hW,<-hA,Lib.alloc_old _ _ _ (by simp)];exact heap_alloc_new w _
 have HZ:Hd (SZ (A+1) W):=by
  show SZ (A+1) W;unfold SZ;rw[<-hW,<-hA];exact nT w _ _
 have HG:Hd (w.grownBy W none):=by show w.grownBy W none;rw[<-hW];exact ak (ak (ai w none) _) _
 have HB:Hd (w.heap.size<=A+1):=by show _<=_;omega
 try rw[hW]
 try rw[hA]
 clear hW hA;obtain⟨e0,e1,e2,e3,e4,e5⟩:=HV.o.cells
 go_region_held3 (fun w'=>w'.cell? ⟨A,0,none⟩=some (.int .i64 a)/\w'.cell? ⟨A,1,none⟩=some (.int .i64 b)/\w'.cell? ⟨A,2,none⟩=some (.int .i64 c)/\w'.cell? ⟨A,3,none⟩=some (.string P)/\w'.cell? ⟨A,4,none⟩=some (.string ⟨#[]⟩)) ((first|(simp only[lh,cell_far (Nat.ne_of_lt (Nat.lt_succ_self A))];assumption)|(simp only[lh];exact⟨e0,e1,e2,e3,e4⟩)|exact Ep (by assumption) (by assumption))) (first|(go_at_call 168;refine(CB.o _).mono ?_;rintro e w1 ⟨rfl,hg1⟩;have hz1:=HZ.o.grow (dF hg1);obtain⟨z0,z1,z2,z3,z4,z5,z6,z7,z8,z9,z10⟩:=hz1.cells;have zf:=hz1.f))
 have HZ1:=ae hz1;have bD:=ae (ag HG.o (dF hg1));clear z0 z1 z2 z3 z4 z5 z6 z7 z8 z9 z10 zf hz1 hg1 e0 e1 e2 e3 e4 e5;go_wp2;have hrw:=HZ1.o;unfold SZ at hrw;have hb:=HB.o;refine bodyPost_ret (results_cell_row rfl _ _ (A+1) 203 #[.int .i64 0,.int .i64 0,.int .i64 0,.string ⟨#[48]⟩,.string ⟨#[]⟩,.int .i64 a,.int .i64 b,.int .i64 c,.string P,.string ⟨#[]⟩,.bool false] (0,0) _ rfl ?_ underlying203 rfl (by kernel_rfl)) rfl ⟨rfl,by repeat (first|refine nR ?_ (by omega)|exact bD.o)⟩;simp[World.setCell,Array.getElem?_modify,hrw]
theorem ack(a b c x1 x2 x3 y1 y2 y3:Int)(P x4 x5 y4 y5:ByteArray)(o:Bool)(w:World)(CN:∀w,Calls prog 213 #[.agg #[.int .i64 a,.int .i64 b,.int .i64 c,.string P,.string ⟨#[]⟩,.int .i64 0],.int .i64 0] w fun e w'=>e=.returned (.agg #[.int .i64 x1,.int .i64 x2,.int .i64 x3,.string x4,.string x5,.int .i64 y1,.int .i64 y2,.int .i64 y3,.string y4,.string y5,.bool o])/\w.grownBy w' none) :
  Calls prog 215 #[.agg #[.int .i64 a,.int .i64 b,.int .i64 c,.string P,.string ⟨#[]⟩,.int .i64 0]] w fun e w'=>e=.returned (.agg #[.int .i64 x1,.int .i64 x2,.int .i64 x3,.string x4,.string x5,.int .i64 y1,.int .i64 y2,.int .i64 y3,.string y4,.string y5,.bool o])/\w.grownBy w' none:=by
 have CB:=ae CN;clear CN;go_enter func215,ntmps215;go_wp2_with (go_at_call 213;refine(CB.o _).mono ?_);rintro e w1 ⟨rfl,hg⟩;obtain⟨A,hA⟩:=zN (w.heap.size);have HV:Hd (PB A a b c P 0 w1):=by
  refine PB.grow (w:=(w.alloc (.cells #[.int .i64 a,.int .i64 b,.int .i64 c,.string P,.string ⟨#[]⟩,.int .i64 0] 247)).alloc (.cells #[.int .i64 0,.int .i64 0,.int .i64 0,.string ⟨#[]⟩,.string ⟨#[]⟩,.int .i64 0,.int .i64 0,.int .i64 0,.string ⟨#[]⟩,.string ⟨#[]⟩,.bool false] 203)) ?_ hg;unfold PB;rw[<-hA,Lib.alloc_old _ _ _ (by simp)];exact heap_alloc_new w _
 have HZ:Hd (SZ (A+1) w1):=by
  refine SZ.grow (w:=(w.alloc (.cells #[.int .i64 a,.int .i64 b,.int .i64 c,.string P,.string ⟨#[]⟩,.int .i64 0] 247)).alloc (.cells #[.int .i64 0,.int .i64 0,.int .i64 0,.string ⟨#[]⟩,.string ⟨#[]⟩,.int .i64 0,.int .i64 0,.int .i64 0,.string ⟨#[]⟩,.string ⟨#[]⟩,.bool false] 203)) ?_ hg;unfold SZ;rw[<-hA];exact nT w _ _
 have HG:=ae (ag (ak (ak (ai w none) _) _) hg);have HB:Hd (w.heap.size<=A/\A+1<w1.heap.size):=⟨Nat.le_of_eq hA,(aC HZ.o)⟩
 try rw[hA]
 clear hA hg;have z0:w1.cell? ⟨A+1,0,none⟩=some (.int .i64 0):=by rw[ah (show _=_ from HZ.o)];rfl
 have z1:w1.cell? ⟨A+1,1,none⟩=some (.int .i64 0):=by rw[ah (show _=_ from HZ.o)];rfl
 have z2:w1.cell? ⟨A+1,2,none⟩=some (.int .i64 0):=by rw[ah (show _=_ from HZ.o)];rfl
 have z3:w1.cell? ⟨A+1,3,none⟩=some (.string ⟨#[]⟩):=by rw[ah (show _=_ from HZ.o)];rfl
 have z4:w1.cell? ⟨A+1,4,none⟩=some (.string ⟨#[]⟩):=by rw[ah (show _=_ from HZ.o)];rfl
 have z5:w1.cell? ⟨A+1,5,none⟩=some (.int .i64 0):=by rw[ah (show _=_ from HZ.o)];rfl
 have z6:w1.cell? ⟨A+1,6,none⟩=some (.int .i64 0):=by rw[ah (show _=_ from HZ.o)];rfl
 have z7:w1.cell? ⟨A+1,7,none⟩=some (.int .i64 0):=by rw[ah (show _=_ from HZ.o)];rfl
 have z8:w1.cell? ⟨A+1,8,none⟩=some (.string ⟨#[]⟩):=by rw[ah (show _=_ from HZ.o)];rfl
 have z9:w1.cell? ⟨A+1,9,none⟩=some (.string ⟨#[]⟩):=by rw[ah (show _=_ from HZ.o)];rfl
 have z10:w1.cell? ⟨A+1,10,none⟩=some (.bool false):=by rw[ah (show _=_ from HZ.o)];rfl
 have zf:=HZ.o.f;go_wp2;have hrw:=HZ.o;unfold SZ at hrw;have hb:=HB.o;refine bodyPost_ret (results_cell_row rfl _ _ (A+1) 203 #[.int .i64 x1,.int .i64 x2,.int .i64 x3,.string x4,.string x5,.int .i64 y1,.int .i64 y2,.int .i64 y3,.string y4,.string y5,.bool o] (0,0) _ rfl ?_ underlying203 rfl (by kernel_rfl)) rfl ⟨rfl,by repeat (first|refine nR ?_ (by omega)|exact HG.o)⟩;simp[World.setCell,Array.getElem?_modify,hrw]
theorem acl(a b c x1 x2 x3 y1 y2 y3:Int)(P x4 x5 y4 y5:ByteArray)(o:Bool)(w:World)(CN:∀w,Calls prog 213 #[.agg #[.int .i64 a,.int .i64 b,.int .i64 c,.string P,.string ⟨#[]⟩,.int .i64 1],.int .i64 1] w fun e w'=>e=.returned (.agg #[.int .i64 x1,.int .i64 x2,.int .i64 x3,.string x4,.string x5,.int .i64 y1,.int .i64 y2,.int .i64 y3,.string y4,.string y5,.bool o])/\w.grownBy w' none) :
  Calls prog 215 #[.agg #[.int .i64 a,.int .i64 b,.int .i64 c,.string P,.string ⟨#[]⟩,.int .i64 1]] w fun e w'=>e=.returned (.agg #[.int .i64 x1,.int .i64 x2,.int .i64 x3,.string x4,.string x5,.int .i64 y1,.int .i64 y2,.int .i64 y3,.string y4,.string y5,.bool o])/\w.grownBy w' none:=by
 have CB:=ae CN;clear CN;go_enter func215,ntmps215;go_wp2_with (go_at_call 213;refine(CB.o _).mono ?_);rintro e w1 ⟨rfl,hg⟩;obtain⟨A,hA⟩:=zN (w.heap.size);have HV:Hd (PB A a b c P 1 w1):=by
  refine PB.grow (w:=(w.alloc (.cells #[.int .i64 a,.int .i64 b,.int .i64 c,.string P,.string ⟨#[]⟩,.int .i64 1] 247)).alloc (.cells #[.int .i64 0,.int .i64 0,.int .i64 0,.string ⟨#[]⟩,.string ⟨#[]⟩,.int .i64 0,.int .i64 0,.int .i64 0,.string ⟨#[]⟩,.string ⟨#[]⟩,.bool false] 203)) ?_ hg;unfold PB;rw[<-hA,Lib.alloc_old _ _ _ (by simp)];exact heap_alloc_new w _
 have HZ:Hd (SZ (A+1) w1):=by
  refine SZ.grow (w:=(w.alloc (.cells #[.int .i64 a,.int .i64 b,.int .i64 c,.string P,.string ⟨#[]⟩,.int .i64 1] 247)).alloc (.cells #[.int .i64 0,.int .i64 0,.int .i64 0,.string ⟨#[]⟩,.string ⟨#[]⟩,.int .i64 0,.int .i64 0,.int .i64 0,.string ⟨#[]⟩,.string ⟨#[]⟩,.bool false] 203)) ?_ hg;unfold SZ;rw[<-hA];exact nT w _ _
 have HG:=ae (ag (ak (ak (ai w none) _) _) hg);have HB:Hd (w.heap.size<=A/\A+1<w1.heap.size):=⟨Nat.le_of_eq hA,(aC HZ.o)⟩
 try rw[hA]
 clear hA hg;have z0:w1.cell? ⟨A+1,0,none⟩=some (.int .i64 0):=by rw[ah (show _=_ from HZ.o)];rfl
 have z1:w1.cell? ⟨A+1,1,none⟩=some (.int .i64 0):=by rw[ah (show _=_ from HZ.o)];rfl
 have z2:w1.cell? ⟨A+1,2,none⟩=some (.int .i64 0):=by rw[ah (show _=_ from HZ.o)];rfl
 have z3:w1.cell? ⟨A+1,3,none⟩=some (.string ⟨#[]⟩):=by rw[ah (show _=_ from HZ.o)];rfl
 have z4:w1.cell? ⟨A+1,4,none⟩=some (.string ⟨#[]⟩):=by rw[ah (show _=_ from HZ.o)];rfl
 have z5:w1.cell? ⟨A+1,5,none⟩=some (.int .i64 0):=by rw[ah (show _=_ from HZ.o)];rfl
 have z6:w1.cell? ⟨A+1,6,none⟩=some (.int .i64 0):=by rw[ah (show _=_ from HZ.o)];rfl
 have z7:w1.cell? ⟨A+1,7,none⟩=some (.int .i64 0):=by rw[ah (show _=_ from HZ.o)];rfl
 have z8:w1.cell? ⟨A+1,8,none⟩=some (.string ⟨#[]⟩):=by rw[ah (show _=_ from HZ.o)];rfl
 have z9:w1.cell? ⟨A+1,9,none⟩=some (.string ⟨#[]⟩):=by rw[ah (show _=_ from HZ.o)];rfl
 have z10:w1.cell? ⟨A+1,10,none⟩=some (.bool false):=by rw[ah (show _=_ from HZ.o)];rfl
 have zf:=HZ.o.f;go_wp2;have hrw:=HZ.o;unfold SZ at hrw;have hb:=HB.o;refine bodyPost_ret (results_cell_row rfl _ _ (A+1) 203 #[.int .i64 x1,.int .i64 x2,.int .i64 x3,.string x4,.string x5,.int .i64 y1,.int .i64 y2,.int .i64 y3,.string y4,.string y5,.bool o] (0,0) _ rfl ?_ underlying203 rfl (by kernel_rfl)) rfl ⟨rfl,by repeat (first|refine nR ?_ (by omega)|exact HG.o)⟩;simp[World.setCell,Array.getElem?_modify,hrw]
theorem acm(a b c x1 x2 x3 y1 y2 y3:Int)(P x4 x5 y4 y5:ByteArray)(o:Bool)(w:World)(CN:∀w,Calls prog 213 #[.agg #[.int .i64 a,.int .i64 b,.int .i64 c,.string P,.string ⟨#[]⟩,.int .i64 2],.int .i64 2] w fun e w'=>e=.returned (.agg #[.int .i64 x1,.int .i64 x2,.int .i64 x3,.string x4,.string x5,.int .i64 y1,.int .i64 y2,.int .i64 y3,.string y4,.string y5,.bool o])/\w.grownBy w' none) :
  Calls prog 215 #[.agg #[.int .i64 a,.int .i64 b,.int .i64 c,.string P,.string ⟨#[]⟩,.int .i64 2]] w fun e w'=>e=.returned (.agg #[.int .i64 x1,.int .i64 x2,.int .i64 x3,.string x4,.string x5,.int .i64 y1,.int .i64 y2,.int .i64 y3,.string y4,.string y5,.bool o])/\w.grownBy w' none:=by
 have CB:=ae CN;clear CN;go_enter func215,ntmps215;go_wp2_with (go_at_call 213;refine(CB.o _).mono ?_);rintro e w1 ⟨rfl,hg⟩;obtain⟨A,hA⟩:=zN (w.heap.size);have HV:Hd (PB A a b c P 2 w1):=by
  refine PB.grow (w:=(w.alloc (.cells #[.int .i64 a,.int .i64 b,.int .i64 c,.string P,.string ⟨#[]⟩,.int .i64 2] 247)).alloc (.cells #[.int .i64 0,.int .i64 0,.int .i64 0,.string ⟨#[]⟩,.string ⟨#[]⟩,.int .i64 0,.int .i64 0,.int .i64 0,.string ⟨#[]⟩,.string ⟨#[]⟩,.bool false] 203)) ?_ hg;unfold PB;rw[<-hA,Lib.alloc_old _ _ _ (by simp)];exact heap_alloc_new w _
 have HZ:Hd (SZ (A+1) w1):=by
  refine SZ.grow (w:=(w.alloc (.cells #[.int .i64 a,.int .i64 b,.int .i64 c,.string P,.string ⟨#[]⟩,.int .i64 2] 247)).alloc (.cells #[.int .i64 0,.int .i64 0,.int .i64 0,.string ⟨#[]⟩,.string ⟨#[]⟩,.int .i64 0,.int .i64 0,.int .i64 0,.string ⟨#[]⟩,.string ⟨#[]⟩,.bool false] 203)) ?_ hg;unfold SZ;rw[<-hA];exact nT w _ _
 have HG:=ae (ag (ak (ak (ai w none) _) _) hg);have HB:Hd (w.heap.size<=A/\A+1<w1.heap.size):=⟨Nat.le_of_eq hA,(aC HZ.o)⟩
 try rw[hA]
 clear hA hg;have z0:w1.cell? ⟨A+1,0,none⟩=some (.int .i64 0):=by rw[ah (show _=_ from HZ.o)];rfl
 have z1:w1.cell? ⟨A+1,1,none⟩=some (.int .i64 0):=by rw[ah (show _=_ from HZ.o)];rfl
 have z2:w1.cell? ⟨A+1,2,none⟩=some (.int .i64 0):=by rw[ah (show _=_ from HZ.o)];rfl
 have z3:w1.cell? ⟨A+1,3,none⟩=some (.string ⟨#[]⟩):=by rw[ah (show _=_ from HZ.o)];rfl
 have z4:w1.cell? ⟨A+1,4,none⟩=some (.string ⟨#[]⟩):=by rw[ah (show _=_ from HZ.o)];rfl
 have z5:w1.cell? ⟨A+1,5,none⟩=some (.int .i64 0):=by rw[ah (show _=_ from HZ.o)];rfl
 have z6:w1.cell? ⟨A+1,6,none⟩=some (.int .i64 0):=by rw[ah (show _=_ from HZ.o)];rfl
 have z7:w1.cell? ⟨A+1,7,none⟩=some (.int .i64 0):=by rw[ah (show _=_ from HZ.o)];rfl
 have z8:w1.cell? ⟨A+1,8,none⟩=some (.string ⟨#[]⟩):=by rw[ah (show _=_ from HZ.o)];rfl
 have z9:w1.cell? ⟨A+1,9,none⟩=some (.string ⟨#[]⟩):=by rw[ah (show _=_ from HZ.o)];rfl
 have z10:w1.cell? ⟨A+1,10,none⟩=some (.bool false):=by rw[ah (show _=_ from HZ.o)];rfl
 have zf:=HZ.o.f;go_wp2;have hrw:=HZ.o;unfold SZ at hrw;have hb:=HB.o;refine bodyPost_ret (results_cell_row rfl _ _ (A+1) 203 #[.int .i64 x1,.int .i64 x2,.int .i64 x3,.string x4,.string x5,.int .i64 y1,.int .i64 y2,.int .i64 y3,.string y4,.string y5,.bool o] (0,0) _ rfl ?_ underlying203 rfl (by kernel_rfl)) rfl ⟨rfl,by repeat (first|refine nR ?_ (by omega)|exact HG.o)⟩;simp[World.setCell,Array.getElem?_modify,hrw]
theorem acn(a b c x1 x2 x3 y1 y2 y3:Int)(P x4 x5 y4 y5:ByteArray)(o:Bool)(w:World)(CN:∀w,Calls prog 213 #[.agg #[.int .i64 a,.int .i64 b,.int .i64 c,.string P,.string ⟨#[]⟩,.int .i64 3],.int .i64 2] w fun e w'=>e=.returned (.agg #[.int .i64 x1,.int .i64 x2,.int .i64 x3,.string x4,.string x5,.int .i64 y1,.int .i64 y2,.int .i64 y3,.string y4,.string y5,.bool o])/\w.grownBy w' none) :
  Calls prog 215 #[.agg #[.int .i64 a,.int .i64 b,.int .i64 c,.string P,.string ⟨#[]⟩,.int .i64 3]] w fun e w'=>e=.returned (.agg #[.int .i64 x1,.int .i64 x2,.int .i64 x3,.string x4,.string x5,.int .i64 y1,.int .i64 y2,.int .i64 y3,.string y4,.string y5,.bool o])/\w.grownBy w' none:=by
 have CB:=ae CN;clear CN;go_enter func215,ntmps215;go_wp2_with (go_at_call 213;refine(CB.o _).mono ?_);rintro e w1 ⟨rfl,hg⟩;obtain⟨A,hA⟩:=zN (w.heap.size);have HV:Hd (PB A a b c P 3 w1):=by
  refine PB.grow (w:=(w.alloc (.cells #[.int .i64 a,.int .i64 b,.int .i64 c,.string P,.string ⟨#[]⟩,.int .i64 3] 247)).alloc (.cells #[.int .i64 0,.int .i64 0,.int .i64 0,.string ⟨#[]⟩,.string ⟨#[]⟩,.int .i64 0,.int .i64 0,.int .i64 0,.string ⟨#[]⟩,.string ⟨#[]⟩,.bool false] 203)) ?_ hg;unfold PB;rw[<-hA,Lib.alloc_old _ _ _ (by simp)];exact heap_alloc_new w _
 have HZ:Hd (SZ (A+1) w1):=by
  refine SZ.grow (w:=(w.alloc (.cells #[.int .i64 a,.int .i64 b,.int .i64 c,.string P,.string ⟨#[]⟩,.int .i64 3] 247)).alloc (.cells #[.int .i64 0,.int .i64 0,.int .i64 0,.string ⟨#[]⟩,.string ⟨#[]⟩,.int .i64 0,.int .i64 0,.int .i64 0,.string ⟨#[]⟩,.string ⟨#[]⟩,.bool false] 203)) ?_ hg;unfold SZ;rw[<-hA];exact nT w _ _
 have HG:=ae (ag (ak (ak (ai w none) _) _) hg);have HB:Hd (w.heap.size<=A/\A+1<w1.heap.size):=⟨Nat.le_of_eq hA,(aC HZ.o)⟩
 try rw[hA]
 clear hA hg;have z0:w1.cell? ⟨A+1,0,none⟩=some (.int .i64 0):=by rw[ah (show _=_ from HZ.o)];rfl
 have z1:w1.cell? ⟨A+1,1,none⟩=some (.int .i64 0):=by rw[ah (show _=_ from HZ.o)];rfl
 have z2:w1.cell? ⟨A+1,2,none⟩=some (.int .i64 0):=by rw[ah (show _=_ from HZ.o)];rfl
 have z3:w1.cell? ⟨A+1,3,none⟩=some (.string ⟨#[]⟩):=by rw[ah (show _=_ from HZ.o)];rfl
 have z4:w1.cell? ⟨A+1,4,none⟩=some (.string ⟨#[]⟩):=by rw[ah (show _=_ from HZ.o)];rfl
 have z5:w1.cell? ⟨A+1,5,none⟩=some (.int .i64 0):=by rw[ah (show _=_ from HZ.o)];rfl
 have z6:w1.cell? ⟨A+1,6,none⟩=some (.int .i64 0):=by rw[ah (show _=_ from HZ.o)];rfl
 have z7:w1.cell? ⟨A+1,7,none⟩=some (.int .i64 0):=by rw[ah (show _=_ from HZ.o)];rfl
 have z8:w1.cell? ⟨A+1,8,none⟩=some (.string ⟨#[]⟩):=by rw[ah (show _=_ from HZ.o)];rfl
 have z9:w1.cell? ⟨A+1,9,none⟩=some (.string ⟨#[]⟩):=by rw[ah (show _=_ from HZ.o)];rfl
 have z10:w1.cell? ⟨A+1,10,none⟩=some (.bool false):=by rw[ah (show _=_ from HZ.o)];rfl
 have zf:=HZ.o.f;go_wp2;have hrw:=HZ.o;unfold SZ at hrw;have hb:=HB.o;refine bodyPost_ret (results_cell_row rfl _ _ (A+1) 203 #[.int .i64 x1,.int .i64 x2,.int .i64 x3,.string x4,.string x5,.int .i64 y1,.int .i64 y2,.int .i64 y3,.string y4,.string y5,.bool o] (0,0) _ rfl ?_ underlying203 rfl (by kernel_rfl)) rfl ⟨rfl,by repeat (first|refine nR ?_ (by omega)|exact HG.o)⟩;simp[World.setCell,Array.getElem?_modify,hrw]
theorem aco(k:Int)(a b c n x1 x2 x3 y1 y2 y3:Int)(P x4 x5 y4 y5:ByteArray)(o:Bool)(w:World)(CL:∀w,Calls prog 214 #[.agg #[.int .i64 a,.int .i64 b,.int .i64 c,.string P,.string ⟨#[]⟩,.int .i64 n]] w fun e w'=>e=.returned (.int .i64 k)/\w.grownBy w' none)(CN:∀w,Calls prog 213 #[.agg #[.int .i64 a,.int .i64 b,.int .i64 c,.string P,.string ⟨#[]⟩,.int .i64 n],.int .i64 k] w fun e w'=>e=.returned (.agg #[.int .i64 x1,.int .i64 x2,.int .i64 x3,.string x4,.string x5,.int .i64 y1,.int .i64 y2,.int .i64 y3,.string y4,.string y5,.bool o])/\w.grownBy w' none) :
  Calls prog 212 #[.agg #[.int .i64 a,.int .i64 b,.int .i64 c,.string P,.string ⟨#[]⟩,.int .i64 n]] w fun e w'=>e=.returned (.agg #[.int .i64 x1,.int .i64 x2,.int .i64 x3,.string x4,.string x5,.int .i64 y1,.int .i64 y2,.int .i64 y3,.string y4,.string y5,.bool o])/\w.grownBy w' none:=by
 have CB:=ae CN;have CE:=ae CL;clear CN CL;go_enter func212,ntmps212;go_wp2_with (fail);obtain⟨A,hA⟩:=zN (w.heap.size);obtain⟨W,hW⟩:=zN ((w.alloc (.cells #[.int .i64 a,.int .i64 b,.int .i64 c,.string P,.string ⟨#[]⟩,.int .i64 n] 247)).alloc (.cells #[.int .i64 0,.int .i64 0,.int .i64 0,.string ⟨#[]⟩,.string ⟨#[]⟩,.int .i64 0,.int .i64 0,.int .i64 0,.string ⟨#[]⟩,.string ⟨#[]⟩,.bool false] 203));have HV:Hd (PB A a b c P n W):=by
  show PB A a b c P n W;unfold PB;rw[<-hW,<-hA,Lib.alloc_old _ _ _ (by simp)];exact heap_alloc_new w _
 have HZ:Hd (SZ (A+1) W):=by
  show SZ (A+1) W;unfold SZ;rw[<-hW,<-hA];exact nT w _ _
 have HG:Hd (w.grownBy W none):=by show w.grownBy W none;rw[<-hW];exact ak (ak (ai w none) _) _
 have HB:Hd (w.heap.size<=A+1):=by show _<=_;omega
 try rw[hW]
 try rw[hA]
 clear hW hA;obtain⟨e0,e1,e2,e3,e4,e5⟩:=HV.o.cells
 go_region_held3 (fun w'=>w'.cell? ⟨A,0,none⟩=some (.int .i64 a)/\w'.cell? ⟨A,1,none⟩=some (.int .i64 b)/\w'.cell? ⟨A,2,none⟩=some (.int .i64 c)/\w'.cell? ⟨A,3,none⟩=some (.string P)/\w'.cell? ⟨A,4,none⟩=some (.string ⟨#[]⟩)/\w'.cell? ⟨A,5,none⟩=some (.int .i64 n)) ((first|(simp only[lh,cell_far (Nat.ne_of_lt (Nat.lt_succ_self A))];assumption)|(simp only[lh];exact⟨e0,e1,e2,e3,e4,e5⟩)|exact acg (by assumption) (by assumption))) (first|(go_at_call 214;refine(CE.o _).mono ?_;rintro e w0 ⟨rfl,hg0⟩)|(go_at_call 213;refine(CB.o _).mono ?_;rintro e w1 ⟨rfl,hg1⟩;have hz1:=(HZ.o.grow (dF hg0)).grow hg1;obtain⟨z0,z1,z2,z3,z4,z5,z6,z7,z8,z9,z10⟩:=hz1.cells;have zf:=hz1.f))
 have HZ1:=ae hz1;have bD:=ae (ag HG.o (ag (dF hg0) hg1));clear hg0 z0 z1 z2 z3 z4 z5 z6 z7 z8 z9 z10 zf hz1 hg1 e0 e1 e2 e3 e4 e5;go_wp2;have hrw:=HZ1.o;unfold SZ at hrw;have hb:=HB.o;refine bodyPost_ret (results_cell_row rfl _ _ (A+1) 203 #[.int .i64 x1,.int .i64 x2,.int .i64 x3,.string x4,.string x5,.int .i64 y1,.int .i64 y2,.int .i64 y3,.string y4,.string y5,.bool o] (0,0) _ rfl ?_ underlying203 rfl (by kernel_rfl)) rfl ⟨rfl,by repeat (first|refine nR ?_ (by omega)|exact bD.o)⟩;simp[World.setCell,Array.getElem?_modify,hrw]
end Go.Proofs.YtiinliaoojfjaaaGreatDoor
