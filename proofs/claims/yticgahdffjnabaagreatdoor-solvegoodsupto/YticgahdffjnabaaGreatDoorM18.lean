import Derived.Test.YticgahdffjnabaaGreatDoorM17
import Derived.Test.YticgahdffjnabaaGreatDoorM05
import Derived.Test.YticgahdffjnabaaGreatDoorM13
set_option linter.unusedVariables false
set_option maxHeartbeats 800000
namespace Go.Proofs.YticgahdffjnabaaGreatDoor
open Go.RowKit
theorem keep6p {p0 p1 p2 p3 p4 p5:Addr} {c0 c1 c2 c3 c4 c5:Value} {w w':World} (hg:w.grownBy w' none) (h:w.cell? p0=some c0/\w.cell? p1=some c1/\w.cell? p2=some c2/\w.cell? p3=some c3/\w.cell? p4=some c4/\w.cell? p5=some c5):w'.cell? p0=some c0/\w'.cell? p1=some c1/\w'.cell? p2=some c2/\w'.cell? p3=some c3/\w'.cell? p4=some c4/\w'.cell? p5=some c5:=by
 obtain ⟨h0,h1,h2,h3,h4,h5⟩:=h;exact ⟨hg.cell h0 (by simp),hg.cell h1 (by simp),hg.cell h2 (by simp),hg.cell h3 (by simp),hg.cell h4 (by simp),hg.cell h5 (by simp)⟩
set_option maxRecDepth 100000 in
theorem named3_any (a b c n3:Int) (P n4:ByteArray) (w:World) (CN:∀w,Calls Tryz.prog 143 #[.agg #[.int .i64 a,.int .i64 b,.int .i64 c,.string P,.string ⟨#[]⟩]] w fun e w'=>e=.returned (.agg #[.int .i64 a,.int .i64 b,.int .i64 n3,.string n4,.string ⟨#[]⟩])/\w.grownBy w' none) :
  Calls Tryz.prog 128 #[.agg #[.int .i64 a,.int .i64 b,.int .i64 c,.string P,.string ⟨#[]⟩,.int .i64 3]] w fun e w'=>e=.returned (.agg #[.int .i64 a,.int .i64 b,.int .i64 c,.string P,.string ⟨#[]⟩,.int .i64 a,.int .i64 b,.int .i64 n3,.string n4,.string ⟨#[]⟩,.bool false])/\w.grownBy w' none:=by
 have CB:Hd (∀w,Calls Tryz.prog 143 #[.agg #[.int .i64 a,.int .i64 b,.int .i64 c,.string P,.string ⟨#[]⟩]] w fun e w'=>e=.returned (.agg #[.int .i64 a,.int .i64 b,.int .i64 n3,.string n4,.string ⟨#[]⟩])/\w.grownBy w' none):=CN;clear CN;go_enter Tryz.func128,Tryz.ntmps128;go_wp2_with (fail);obtain ⟨A,hA⟩:=nm (w.heap.size);obtain ⟨W,hW⟩:=nm ((w.alloc (.cells #[.int .i64 a,.int .i64 b,.int .i64 c,.string P,.string ⟨#[]⟩,.int .i64 3] 163)).alloc (.cells #[.int .i64 0,.int .i64 0,.int .i64 0,.string ⟨#[]⟩,.string ⟨#[]⟩,.int .i64 0,.int .i64 0,.int .i64 0,.string ⟨#[]⟩,.string ⟨#[]⟩,.bool false] 110));have HV:Hd (PB A a b c P 3 W):=by
  show PB A a b c P 3 W;unfold PB;rw [<-hW,<-hA,Lib.alloc_old _ _ _ (by simp)];exact heap_alloc_new w _
 have HZ:Hd (SZ (A+1) W):=by
  show SZ (A+1) W;unfold SZ;rw [<-hW,<-hA];exact row2' w _ _
 have HG:Hd (w.grownBy W none):=by show w.grownBy W none;rw [<-hW];exact gb_alloc (gb_alloc (gb_refl w none) _) _
 have HB:Hd (w.heap.size<=A+1):=by show _<=_;omega
 try rw [hW]
 try rw [hA]
 clear hW hA;obtain ⟨e0,e1,e2,e3,e4,e5⟩:=HV.o.cells
 go_region_held3 (fun w'=>w'.cell? ⟨A,0,none⟩=some (.int .i64 a)/\w'.cell? ⟨A,1,none⟩=some (.int .i64 b)/\w'.cell? ⟨A,2,none⟩=some (.int .i64 c)/\w'.cell? ⟨A,3,none⟩=some (.string P)/\w'.cell? ⟨A,4,none⟩=some (.string ⟨#[]⟩)) ((first | (simp only [cell_drew,cell_far (Nat.ne_of_lt (Nat.lt_succ_self A))];assumption) | (simp only [cell_drew];exact ⟨e0,e1,e2,e3,e4⟩) | exact keep5p (by assumption) (by assumption))) (first | (go_at_call 143;refine (CB.o _).mono ?_;rintro e w1 ⟨rfl,hg1⟩;have hz1:SZ (A+1) w1:=HZ.o.grow (gb_undrew hg1);obtain ⟨z0,z1,z2,z3,z4,z5,z6,z7,z8,z9,z10⟩:=hz1.cells;have zf:=hz1.f))
 have HZ1:Hd (SZ (A+1) w1):=hz1;have HGW:Hd (w.grownBy w1 none):=gb_trans HG.o (gb_undrew hg1);clear z0 z1 z2 z3 z4 z5 z6 z7 z8 z9 z10 zf hz1 hg1 e0 e1 e2 e3 e4 e5;go_wp2;have hrw:=HZ1.o;unfold SZ at hrw;have hb:=HB.o;refine bodyPost_ret (results_cell_row rfl _ _ (A+1) 110 #[.int .i64 a,.int .i64 b,.int .i64 c,.string P,.string ⟨#[]⟩,.int .i64 a,.int .i64 b,.int .i64 n3,.string n4,.string ⟨#[]⟩,.bool false] (0,0) _ rfl ?_ Tryz.underlying110 rfl (by kernel_rfl)) rfl ⟨rfl,by repeat (first | refine gb_setC ?_ (by omega) | exact HGW.o)⟩;simp [World.setCell,Array.getElem?_modify,hrw]
set_option maxRecDepth 100000 in
theorem namedl_any (a b c n x1 x2 x3 y1 y2 y3:Int) (P x4 x5 y4 y5:ByteArray) (o:Bool) (w:World) (hn:(n == 3)=false) (CN:∀w,Calls Tryz.prog 130 #[.agg #[.int .i64 a,.int .i64 b,.int .i64 c,.string P,.string ⟨#[]⟩,.int .i64 n],.int .i64 n] w fun e w'=>e=.returned (.agg #[.int .i64 x1,.int .i64 x2,.int .i64 x3,.string x4,.string x5,.int .i64 y1,.int .i64 y2,.int .i64 y3,.string y4,.string y5,.bool o])/\w.grownBy w' none) :
  Calls Tryz.prog 128 #[.agg #[.int .i64 a,.int .i64 b,.int .i64 c,.string P,.string ⟨#[]⟩,.int .i64 n]] w fun e w'=>e=.returned (.agg #[.int .i64 x1,.int .i64 x2,.int .i64 x3,.string x4,.string x5,.int .i64 y1,.int .i64 y2,.int .i64 y3,.string y4,.string y5,.bool o])/\w.grownBy w' none:=by
 have CB:Hd (∀w,Calls Tryz.prog 130 #[.agg #[.int .i64 a,.int .i64 b,.int .i64 c,.string P,.string ⟨#[]⟩,.int .i64 n],.int .i64 n] w fun e w'=>e=.returned (.agg #[.int .i64 x1,.int .i64 x2,.int .i64 x3,.string x4,.string x5,.int .i64 y1,.int .i64 y2,.int .i64 y3,.string y4,.string y5,.bool o])/\w.grownBy w' none):=CN;clear CN;go_enter Tryz.func128,Tryz.ntmps128;go_wp2_with (first | (go_at_call 130;refine (CB.o _).mono ?_));rintro e w1 ⟨rfl,hg⟩;obtain ⟨A,hA⟩:=nm (w.heap.size);have HV:Hd (PB A a b c P n w1):=by
  refine PB.grow (w:=(w.alloc (.cells #[.int .i64 a,.int .i64 b,.int .i64 c,.string P,.string ⟨#[]⟩,.int .i64 n] 163)).alloc (.cells #[.int .i64 0,.int .i64 0,.int .i64 0,.string ⟨#[]⟩,.string ⟨#[]⟩,.int .i64 0,.int .i64 0,.int .i64 0,.string ⟨#[]⟩,.string ⟨#[]⟩,.bool false] 110)) ?_ hg;unfold PB;rw [<-hA,Lib.alloc_old _ _ _ (by simp)];exact heap_alloc_new w _
 have HZ:Hd (SZ (A+1) w1):=by
  refine SZ.grow (w:=(w.alloc (.cells #[.int .i64 a,.int .i64 b,.int .i64 c,.string P,.string ⟨#[]⟩,.int .i64 n] 163)).alloc (.cells #[.int .i64 0,.int .i64 0,.int .i64 0,.string ⟨#[]⟩,.string ⟨#[]⟩,.int .i64 0,.int .i64 0,.int .i64 0,.string ⟨#[]⟩,.string ⟨#[]⟩,.bool false] 110)) ?_ hg;unfold SZ;rw [<-hA];exact row2' w _ _
 have HG:Hd (w.grownBy w1 none):=gb_trans (gb_alloc (gb_alloc (gb_refl w none) _) _) hg;have HB:Hd (w.heap.size<=A/\A+1 < w1.heap.size):=⟨Nat.le_of_eq hA,(hqL HZ.o)⟩
 try rw [hA]
 clear hA hg;have z0:w1.cell? ⟨A+1,0,none⟩=some (.int .i64 0):=by rw [cOH (show _=_ from HZ.o)];rfl
 have z1:w1.cell? ⟨A+1,1,none⟩=some (.int .i64 0):=by rw [cOH (show _=_ from HZ.o)];rfl
 have z2:w1.cell? ⟨A+1,2,none⟩=some (.int .i64 0):=by rw [cOH (show _=_ from HZ.o)];rfl
 have z3:w1.cell? ⟨A+1,3,none⟩=some (.string ⟨#[]⟩):=by rw [cOH (show _=_ from HZ.o)];rfl
 have z4:w1.cell? ⟨A+1,4,none⟩=some (.string ⟨#[]⟩):=by rw [cOH (show _=_ from HZ.o)];rfl
 have z5:w1.cell? ⟨A+1,5,none⟩=some (.int .i64 0):=by rw [cOH (show _=_ from HZ.o)];rfl
 have z6:w1.cell? ⟨A+1,6,none⟩=some (.int .i64 0):=by rw [cOH (show _=_ from HZ.o)];rfl
 have z7:w1.cell? ⟨A+1,7,none⟩=some (.int .i64 0):=by rw [cOH (show _=_ from HZ.o)];rfl
 have z8:w1.cell? ⟨A+1,8,none⟩=some (.string ⟨#[]⟩):=by rw [cOH (show _=_ from HZ.o)];rfl
 have z9:w1.cell? ⟨A+1,9,none⟩=some (.string ⟨#[]⟩):=by rw [cOH (show _=_ from HZ.o)];rfl
 have z10:w1.cell? ⟨A+1,10,none⟩=some (.bool false):=by rw [cOH (show _=_ from HZ.o)];rfl
 have zf:∀o,w1.frozen? ⟨A+1,o,none⟩=false:=fun o=>HZ.o.f o
 go_wp2;have hrw:=HZ.o;unfold SZ at hrw;have hb:=HB.o;refine bodyPost_ret (results_cell_row rfl _ _ (A+1) 110 #[.int .i64 x1,.int .i64 x2,.int .i64 x3,.string x4,.string x5,.int .i64 y1,.int .i64 y2,.int .i64 y3,.string y4,.string y5,.bool o] (0,0) _ rfl ?_ Tryz.underlying110 rfl (by kernel_rfl)) rfl ⟨rfl,by repeat (first | refine gb_setC ?_ (by omega) | exact HG.o)⟩;simp [World.setCell,Array.getElem?_modify,hrw]
set_option maxRecDepth 100000 in
theorem signs2_any (a b c n:Int) (P:ByteArray) (w:World) :
  Calls Tryz.prog 127 #[.agg #[.int .i64 a,.int .i64 b,.int .i64 c,.string P,.string ⟨#[]⟩,.int .i64 n]] w fun e w'=>e=.returned (.agg #[.int .i64 0,.int .i64 0,.int .i64 0,.string ⟨#[48]⟩,.string ⟨#[]⟩,.int .i64 a,.int .i64 b,.int .i64 c,.string P,.string ⟨#[]⟩,.bool false])/\w.grownBy w' none:=by
 have CB:Hd (∀w,Calls Tryz.prog 92 #[] w fun e w'=>e=.returned (.agg #[.int .i64 0,.int .i64 0,.int .i64 0,.string ⟨#[48]⟩,.string ⟨#[]⟩])/\w.grownBy w' none):=low_any;go_enter Tryz.func127,Tryz.ntmps127;go_wp2_with (fail);obtain ⟨A,hA⟩:=nm (w.heap.size);obtain ⟨W,hW⟩:=nm ((w.alloc (.cells #[.int .i64 a,.int .i64 b,.int .i64 c,.string P,.string ⟨#[]⟩,.int .i64 n] 163)).alloc (.cells #[.int .i64 0,.int .i64 0,.int .i64 0,.string ⟨#[]⟩,.string ⟨#[]⟩,.int .i64 0,.int .i64 0,.int .i64 0,.string ⟨#[]⟩,.string ⟨#[]⟩,.bool false] 110));have HV:Hd (PB A a b c P n W):=by
  show PB A a b c P n W;unfold PB;rw [<-hW,<-hA,Lib.alloc_old _ _ _ (by simp)];exact heap_alloc_new w _
 have HZ:Hd (SZ (A+1) W):=by
  show SZ (A+1) W;unfold SZ;rw [<-hW,<-hA];exact row2' w _ _
 have HG:Hd (w.grownBy W none):=by show w.grownBy W none;rw [<-hW];exact gb_alloc (gb_alloc (gb_refl w none) _) _
 have HB:Hd (w.heap.size<=A+1):=by show _<=_;omega
 try rw [hW]
 try rw [hA]
 clear hW hA;obtain ⟨e0,e1,e2,e3,e4,e5⟩:=HV.o.cells
 go_region_held3 (fun w'=>w'.cell? ⟨A,0,none⟩=some (.int .i64 a)/\w'.cell? ⟨A,1,none⟩=some (.int .i64 b)/\w'.cell? ⟨A,2,none⟩=some (.int .i64 c)/\w'.cell? ⟨A,3,none⟩=some (.string P)/\w'.cell? ⟨A,4,none⟩=some (.string ⟨#[]⟩)) ((first | (simp only [cell_drew,cell_far (Nat.ne_of_lt (Nat.lt_succ_self A))];assumption) | (simp only [cell_drew];exact ⟨e0,e1,e2,e3,e4⟩) | exact keep5p (by assumption) (by assumption))) (first | (go_at_call 92;refine (CB.o _).mono ?_;rintro e w1 ⟨rfl,hg1⟩;have hz1:SZ (A+1) w1:=HZ.o.grow (gb_undrew hg1);obtain ⟨z0,z1,z2,z3,z4,z5,z6,z7,z8,z9,z10⟩:=hz1.cells;have zf:=hz1.f))
 have HZ1:Hd (SZ (A+1) w1):=hz1;have HGW:Hd (w.grownBy w1 none):=gb_trans HG.o (gb_undrew hg1);clear z0 z1 z2 z3 z4 z5 z6 z7 z8 z9 z10 zf hz1 hg1 e0 e1 e2 e3 e4 e5;go_wp2;have hrw:=HZ1.o;unfold SZ at hrw;have hb:=HB.o;refine bodyPost_ret (results_cell_row rfl _ _ (A+1) 110 #[.int .i64 0,.int .i64 0,.int .i64 0,.string ⟨#[48]⟩,.string ⟨#[]⟩,.int .i64 a,.int .i64 b,.int .i64 c,.string P,.string ⟨#[]⟩,.bool false] (0,0) _ rfl ?_ Tryz.underlying110 rfl (by kernel_rfl)) rfl ⟨rfl,by repeat (first | refine gb_setC ?_ (by omega) | exact HGW.o)⟩;simp [World.setCell,Array.getElem?_modify,hrw]
set_option maxRecDepth 100000 in
theorem tilde0_any (a b c x1 x2 x3 y1 y2 y3:Int) (P x4 x5 y4 y5:ByteArray) (o:Bool) (w:World) (CN:∀w,Calls Tryz.prog 130 #[.agg #[.int .i64 a,.int .i64 b,.int .i64 c,.string P,.string ⟨#[]⟩,.int .i64 0],.int .i64 0] w fun e w'=>e=.returned (.agg #[.int .i64 x1,.int .i64 x2,.int .i64 x3,.string x4,.string x5,.int .i64 y1,.int .i64 y2,.int .i64 y3,.string y4,.string y5,.bool o])/\w.grownBy w' none) :
  Calls Tryz.prog 132 #[.agg #[.int .i64 a,.int .i64 b,.int .i64 c,.string P,.string ⟨#[]⟩,.int .i64 0]] w fun e w'=>e=.returned (.agg #[.int .i64 x1,.int .i64 x2,.int .i64 x3,.string x4,.string x5,.int .i64 y1,.int .i64 y2,.int .i64 y3,.string y4,.string y5,.bool o])/\w.grownBy w' none:=by
 have CB:Hd (∀w,Calls Tryz.prog 130 #[.agg #[.int .i64 a,.int .i64 b,.int .i64 c,.string P,.string ⟨#[]⟩,.int .i64 0],.int .i64 0] w fun e w'=>e=.returned (.agg #[.int .i64 x1,.int .i64 x2,.int .i64 x3,.string x4,.string x5,.int .i64 y1,.int .i64 y2,.int .i64 y3,.string y4,.string y5,.bool o])/\w.grownBy w' none):=CN;clear CN;go_enter Tryz.func132,Tryz.ntmps132;go_wp2_with (first | (go_at_call 130;refine (CB.o _).mono ?_));rintro e w1 ⟨rfl,hg⟩;obtain ⟨A,hA⟩:=nm (w.heap.size);have HV:Hd (PB A a b c P 0 w1):=by
  refine PB.grow (w:=(w.alloc (.cells #[.int .i64 a,.int .i64 b,.int .i64 c,.string P,.string ⟨#[]⟩,.int .i64 0] 163)).alloc (.cells #[.int .i64 0,.int .i64 0,.int .i64 0,.string ⟨#[]⟩,.string ⟨#[]⟩,.int .i64 0,.int .i64 0,.int .i64 0,.string ⟨#[]⟩,.string ⟨#[]⟩,.bool false] 110)) ?_ hg;unfold PB;rw [<-hA,Lib.alloc_old _ _ _ (by simp)];exact heap_alloc_new w _
 have HZ:Hd (SZ (A+1) w1):=by
  refine SZ.grow (w:=(w.alloc (.cells #[.int .i64 a,.int .i64 b,.int .i64 c,.string P,.string ⟨#[]⟩,.int .i64 0] 163)).alloc (.cells #[.int .i64 0,.int .i64 0,.int .i64 0,.string ⟨#[]⟩,.string ⟨#[]⟩,.int .i64 0,.int .i64 0,.int .i64 0,.string ⟨#[]⟩,.string ⟨#[]⟩,.bool false] 110)) ?_ hg;unfold SZ;rw [<-hA];exact row2' w _ _
 have HG:Hd (w.grownBy w1 none):=gb_trans (gb_alloc (gb_alloc (gb_refl w none) _) _) hg;have HB:Hd (w.heap.size<=A/\A+1 < w1.heap.size):=⟨Nat.le_of_eq hA,(hqL HZ.o)⟩
 try rw [hA]
 clear hA hg;have z0:w1.cell? ⟨A+1,0,none⟩=some (.int .i64 0):=by rw [cOH (show _=_ from HZ.o)];rfl
 have z1:w1.cell? ⟨A+1,1,none⟩=some (.int .i64 0):=by rw [cOH (show _=_ from HZ.o)];rfl
 have z2:w1.cell? ⟨A+1,2,none⟩=some (.int .i64 0):=by rw [cOH (show _=_ from HZ.o)];rfl
 have z3:w1.cell? ⟨A+1,3,none⟩=some (.string ⟨#[]⟩):=by rw [cOH (show _=_ from HZ.o)];rfl
 have z4:w1.cell? ⟨A+1,4,none⟩=some (.string ⟨#[]⟩):=by rw [cOH (show _=_ from HZ.o)];rfl
 have z5:w1.cell? ⟨A+1,5,none⟩=some (.int .i64 0):=by rw [cOH (show _=_ from HZ.o)];rfl
 have z6:w1.cell? ⟨A+1,6,none⟩=some (.int .i64 0):=by rw [cOH (show _=_ from HZ.o)];rfl
 have z7:w1.cell? ⟨A+1,7,none⟩=some (.int .i64 0):=by rw [cOH (show _=_ from HZ.o)];rfl
 have z8:w1.cell? ⟨A+1,8,none⟩=some (.string ⟨#[]⟩):=by rw [cOH (show _=_ from HZ.o)];rfl
 have z9:w1.cell? ⟨A+1,9,none⟩=some (.string ⟨#[]⟩):=by rw [cOH (show _=_ from HZ.o)];rfl
 have z10:w1.cell? ⟨A+1,10,none⟩=some (.bool false):=by rw [cOH (show _=_ from HZ.o)];rfl
 have zf:∀o,w1.frozen? ⟨A+1,o,none⟩=false:=fun o=>HZ.o.f o
 go_wp2;have hrw:=HZ.o;unfold SZ at hrw;have hb:=HB.o;refine bodyPost_ret (results_cell_row rfl _ _ (A+1) 110 #[.int .i64 x1,.int .i64 x2,.int .i64 x3,.string x4,.string x5,.int .i64 y1,.int .i64 y2,.int .i64 y3,.string y4,.string y5,.bool o] (0,0) _ rfl ?_ Tryz.underlying110 rfl (by kernel_rfl)) rfl ⟨rfl,by repeat (first | refine gb_setC ?_ (by omega) | exact HG.o)⟩;simp [World.setCell,Array.getElem?_modify,hrw]
set_option maxRecDepth 100000 in
theorem tilde1_any (a b c x1 x2 x3 y1 y2 y3:Int) (P x4 x5 y4 y5:ByteArray) (o:Bool) (w:World) (CN:∀w,Calls Tryz.prog 130 #[.agg #[.int .i64 a,.int .i64 b,.int .i64 c,.string P,.string ⟨#[]⟩,.int .i64 1],.int .i64 1] w fun e w'=>e=.returned (.agg #[.int .i64 x1,.int .i64 x2,.int .i64 x3,.string x4,.string x5,.int .i64 y1,.int .i64 y2,.int .i64 y3,.string y4,.string y5,.bool o])/\w.grownBy w' none) :
  Calls Tryz.prog 132 #[.agg #[.int .i64 a,.int .i64 b,.int .i64 c,.string P,.string ⟨#[]⟩,.int .i64 1]] w fun e w'=>e=.returned (.agg #[.int .i64 x1,.int .i64 x2,.int .i64 x3,.string x4,.string x5,.int .i64 y1,.int .i64 y2,.int .i64 y3,.string y4,.string y5,.bool o])/\w.grownBy w' none:=by
 have CB:Hd (∀w,Calls Tryz.prog 130 #[.agg #[.int .i64 a,.int .i64 b,.int .i64 c,.string P,.string ⟨#[]⟩,.int .i64 1],.int .i64 1] w fun e w'=>e=.returned (.agg #[.int .i64 x1,.int .i64 x2,.int .i64 x3,.string x4,.string x5,.int .i64 y1,.int .i64 y2,.int .i64 y3,.string y4,.string y5,.bool o])/\w.grownBy w' none):=CN;clear CN;go_enter Tryz.func132,Tryz.ntmps132;go_wp2_with (first | (go_at_call 130;refine (CB.o _).mono ?_));rintro e w1 ⟨rfl,hg⟩;obtain ⟨A,hA⟩:=nm (w.heap.size);have HV:Hd (PB A a b c P 1 w1):=by
  refine PB.grow (w:=(w.alloc (.cells #[.int .i64 a,.int .i64 b,.int .i64 c,.string P,.string ⟨#[]⟩,.int .i64 1] 163)).alloc (.cells #[.int .i64 0,.int .i64 0,.int .i64 0,.string ⟨#[]⟩,.string ⟨#[]⟩,.int .i64 0,.int .i64 0,.int .i64 0,.string ⟨#[]⟩,.string ⟨#[]⟩,.bool false] 110)) ?_ hg;unfold PB;rw [<-hA,Lib.alloc_old _ _ _ (by simp)];exact heap_alloc_new w _
 have HZ:Hd (SZ (A+1) w1):=by
  refine SZ.grow (w:=(w.alloc (.cells #[.int .i64 a,.int .i64 b,.int .i64 c,.string P,.string ⟨#[]⟩,.int .i64 1] 163)).alloc (.cells #[.int .i64 0,.int .i64 0,.int .i64 0,.string ⟨#[]⟩,.string ⟨#[]⟩,.int .i64 0,.int .i64 0,.int .i64 0,.string ⟨#[]⟩,.string ⟨#[]⟩,.bool false] 110)) ?_ hg;unfold SZ;rw [<-hA];exact row2' w _ _
 have HG:Hd (w.grownBy w1 none):=gb_trans (gb_alloc (gb_alloc (gb_refl w none) _) _) hg;have HB:Hd (w.heap.size<=A/\A+1 < w1.heap.size):=⟨Nat.le_of_eq hA,(hqL HZ.o)⟩
 try rw [hA]
 clear hA hg;have z0:w1.cell? ⟨A+1,0,none⟩=some (.int .i64 0):=by rw [cOH (show _=_ from HZ.o)];rfl
 have z1:w1.cell? ⟨A+1,1,none⟩=some (.int .i64 0):=by rw [cOH (show _=_ from HZ.o)];rfl
 have z2:w1.cell? ⟨A+1,2,none⟩=some (.int .i64 0):=by rw [cOH (show _=_ from HZ.o)];rfl
 have z3:w1.cell? ⟨A+1,3,none⟩=some (.string ⟨#[]⟩):=by rw [cOH (show _=_ from HZ.o)];rfl
 have z4:w1.cell? ⟨A+1,4,none⟩=some (.string ⟨#[]⟩):=by rw [cOH (show _=_ from HZ.o)];rfl
 have z5:w1.cell? ⟨A+1,5,none⟩=some (.int .i64 0):=by rw [cOH (show _=_ from HZ.o)];rfl
 have z6:w1.cell? ⟨A+1,6,none⟩=some (.int .i64 0):=by rw [cOH (show _=_ from HZ.o)];rfl
 have z7:w1.cell? ⟨A+1,7,none⟩=some (.int .i64 0):=by rw [cOH (show _=_ from HZ.o)];rfl
 have z8:w1.cell? ⟨A+1,8,none⟩=some (.string ⟨#[]⟩):=by rw [cOH (show _=_ from HZ.o)];rfl
 have z9:w1.cell? ⟨A+1,9,none⟩=some (.string ⟨#[]⟩):=by rw [cOH (show _=_ from HZ.o)];rfl
 have z10:w1.cell? ⟨A+1,10,none⟩=some (.bool false):=by rw [cOH (show _=_ from HZ.o)];rfl
 have zf:∀o,w1.frozen? ⟨A+1,o,none⟩=false:=fun o=>HZ.o.f o
 go_wp2;have hrw:=HZ.o;unfold SZ at hrw;have hb:=HB.o;refine bodyPost_ret (results_cell_row rfl _ _ (A+1) 110 #[.int .i64 x1,.int .i64 x2,.int .i64 x3,.string x4,.string x5,.int .i64 y1,.int .i64 y2,.int .i64 y3,.string y4,.string y5,.bool o] (0,0) _ rfl ?_ Tryz.underlying110 rfl (by kernel_rfl)) rfl ⟨rfl,by repeat (first | refine gb_setC ?_ (by omega) | exact HG.o)⟩;simp [World.setCell,Array.getElem?_modify,hrw]
set_option maxRecDepth 100000 in
theorem tilde2_any (a b c x1 x2 x3 y1 y2 y3:Int) (P x4 x5 y4 y5:ByteArray) (o:Bool) (w:World) (CN:∀w,Calls Tryz.prog 130 #[.agg #[.int .i64 a,.int .i64 b,.int .i64 c,.string P,.string ⟨#[]⟩,.int .i64 2],.int .i64 2] w fun e w'=>e=.returned (.agg #[.int .i64 x1,.int .i64 x2,.int .i64 x3,.string x4,.string x5,.int .i64 y1,.int .i64 y2,.int .i64 y3,.string y4,.string y5,.bool o])/\w.grownBy w' none) :
  Calls Tryz.prog 132 #[.agg #[.int .i64 a,.int .i64 b,.int .i64 c,.string P,.string ⟨#[]⟩,.int .i64 2]] w fun e w'=>e=.returned (.agg #[.int .i64 x1,.int .i64 x2,.int .i64 x3,.string x4,.string x5,.int .i64 y1,.int .i64 y2,.int .i64 y3,.string y4,.string y5,.bool o])/\w.grownBy w' none:=by
 have CB:Hd (∀w,Calls Tryz.prog 130 #[.agg #[.int .i64 a,.int .i64 b,.int .i64 c,.string P,.string ⟨#[]⟩,.int .i64 2],.int .i64 2] w fun e w'=>e=.returned (.agg #[.int .i64 x1,.int .i64 x2,.int .i64 x3,.string x4,.string x5,.int .i64 y1,.int .i64 y2,.int .i64 y3,.string y4,.string y5,.bool o])/\w.grownBy w' none):=CN;clear CN;go_enter Tryz.func132,Tryz.ntmps132;go_wp2_with (first | (go_at_call 130;refine (CB.o _).mono ?_));rintro e w1 ⟨rfl,hg⟩;obtain ⟨A,hA⟩:=nm (w.heap.size);have HV:Hd (PB A a b c P 2 w1):=by
  refine PB.grow (w:=(w.alloc (.cells #[.int .i64 a,.int .i64 b,.int .i64 c,.string P,.string ⟨#[]⟩,.int .i64 2] 163)).alloc (.cells #[.int .i64 0,.int .i64 0,.int .i64 0,.string ⟨#[]⟩,.string ⟨#[]⟩,.int .i64 0,.int .i64 0,.int .i64 0,.string ⟨#[]⟩,.string ⟨#[]⟩,.bool false] 110)) ?_ hg;unfold PB;rw [<-hA,Lib.alloc_old _ _ _ (by simp)];exact heap_alloc_new w _
 have HZ:Hd (SZ (A+1) w1):=by
  refine SZ.grow (w:=(w.alloc (.cells #[.int .i64 a,.int .i64 b,.int .i64 c,.string P,.string ⟨#[]⟩,.int .i64 2] 163)).alloc (.cells #[.int .i64 0,.int .i64 0,.int .i64 0,.string ⟨#[]⟩,.string ⟨#[]⟩,.int .i64 0,.int .i64 0,.int .i64 0,.string ⟨#[]⟩,.string ⟨#[]⟩,.bool false] 110)) ?_ hg;unfold SZ;rw [<-hA];exact row2' w _ _
 have HG:Hd (w.grownBy w1 none):=gb_trans (gb_alloc (gb_alloc (gb_refl w none) _) _) hg;have HB:Hd (w.heap.size<=A/\A+1 < w1.heap.size):=⟨Nat.le_of_eq hA,(hqL HZ.o)⟩
 try rw [hA]
 clear hA hg;have z0:w1.cell? ⟨A+1,0,none⟩=some (.int .i64 0):=by rw [cOH (show _=_ from HZ.o)];rfl
 have z1:w1.cell? ⟨A+1,1,none⟩=some (.int .i64 0):=by rw [cOH (show _=_ from HZ.o)];rfl
 have z2:w1.cell? ⟨A+1,2,none⟩=some (.int .i64 0):=by rw [cOH (show _=_ from HZ.o)];rfl
 have z3:w1.cell? ⟨A+1,3,none⟩=some (.string ⟨#[]⟩):=by rw [cOH (show _=_ from HZ.o)];rfl
 have z4:w1.cell? ⟨A+1,4,none⟩=some (.string ⟨#[]⟩):=by rw [cOH (show _=_ from HZ.o)];rfl
 have z5:w1.cell? ⟨A+1,5,none⟩=some (.int .i64 0):=by rw [cOH (show _=_ from HZ.o)];rfl
 have z6:w1.cell? ⟨A+1,6,none⟩=some (.int .i64 0):=by rw [cOH (show _=_ from HZ.o)];rfl
 have z7:w1.cell? ⟨A+1,7,none⟩=some (.int .i64 0):=by rw [cOH (show _=_ from HZ.o)];rfl
 have z8:w1.cell? ⟨A+1,8,none⟩=some (.string ⟨#[]⟩):=by rw [cOH (show _=_ from HZ.o)];rfl
 have z9:w1.cell? ⟨A+1,9,none⟩=some (.string ⟨#[]⟩):=by rw [cOH (show _=_ from HZ.o)];rfl
 have z10:w1.cell? ⟨A+1,10,none⟩=some (.bool false):=by rw [cOH (show _=_ from HZ.o)];rfl
 have zf:∀o,w1.frozen? ⟨A+1,o,none⟩=false:=fun o=>HZ.o.f o
 go_wp2;have hrw:=HZ.o;unfold SZ at hrw;have hb:=HB.o;refine bodyPost_ret (results_cell_row rfl _ _ (A+1) 110 #[.int .i64 x1,.int .i64 x2,.int .i64 x3,.string x4,.string x5,.int .i64 y1,.int .i64 y2,.int .i64 y3,.string y4,.string y5,.bool o] (0,0) _ rfl ?_ Tryz.underlying110 rfl (by kernel_rfl)) rfl ⟨rfl,by repeat (first | refine gb_setC ?_ (by omega) | exact HG.o)⟩;simp [World.setCell,Array.getElem?_modify,hrw]
set_option maxRecDepth 100000 in
theorem tilde3_any (a b c x1 x2 x3 y1 y2 y3:Int) (P x4 x5 y4 y5:ByteArray) (o:Bool) (w:World) (CN:∀w,Calls Tryz.prog 130 #[.agg #[.int .i64 a,.int .i64 b,.int .i64 c,.string P,.string ⟨#[]⟩,.int .i64 3],.int .i64 2] w fun e w'=>e=.returned (.agg #[.int .i64 x1,.int .i64 x2,.int .i64 x3,.string x4,.string x5,.int .i64 y1,.int .i64 y2,.int .i64 y3,.string y4,.string y5,.bool o])/\w.grownBy w' none) :
  Calls Tryz.prog 132 #[.agg #[.int .i64 a,.int .i64 b,.int .i64 c,.string P,.string ⟨#[]⟩,.int .i64 3]] w fun e w'=>e=.returned (.agg #[.int .i64 x1,.int .i64 x2,.int .i64 x3,.string x4,.string x5,.int .i64 y1,.int .i64 y2,.int .i64 y3,.string y4,.string y5,.bool o])/\w.grownBy w' none:=by
 have CB:Hd (∀w,Calls Tryz.prog 130 #[.agg #[.int .i64 a,.int .i64 b,.int .i64 c,.string P,.string ⟨#[]⟩,.int .i64 3],.int .i64 2] w fun e w'=>e=.returned (.agg #[.int .i64 x1,.int .i64 x2,.int .i64 x3,.string x4,.string x5,.int .i64 y1,.int .i64 y2,.int .i64 y3,.string y4,.string y5,.bool o])/\w.grownBy w' none):=CN;clear CN;go_enter Tryz.func132,Tryz.ntmps132;go_wp2_with (first | (go_at_call 130;refine (CB.o _).mono ?_));rintro e w1 ⟨rfl,hg⟩;obtain ⟨A,hA⟩:=nm (w.heap.size);have HV:Hd (PB A a b c P 3 w1):=by
  refine PB.grow (w:=(w.alloc (.cells #[.int .i64 a,.int .i64 b,.int .i64 c,.string P,.string ⟨#[]⟩,.int .i64 3] 163)).alloc (.cells #[.int .i64 0,.int .i64 0,.int .i64 0,.string ⟨#[]⟩,.string ⟨#[]⟩,.int .i64 0,.int .i64 0,.int .i64 0,.string ⟨#[]⟩,.string ⟨#[]⟩,.bool false] 110)) ?_ hg;unfold PB;rw [<-hA,Lib.alloc_old _ _ _ (by simp)];exact heap_alloc_new w _
 have HZ:Hd (SZ (A+1) w1):=by
  refine SZ.grow (w:=(w.alloc (.cells #[.int .i64 a,.int .i64 b,.int .i64 c,.string P,.string ⟨#[]⟩,.int .i64 3] 163)).alloc (.cells #[.int .i64 0,.int .i64 0,.int .i64 0,.string ⟨#[]⟩,.string ⟨#[]⟩,.int .i64 0,.int .i64 0,.int .i64 0,.string ⟨#[]⟩,.string ⟨#[]⟩,.bool false] 110)) ?_ hg;unfold SZ;rw [<-hA];exact row2' w _ _
 have HG:Hd (w.grownBy w1 none):=gb_trans (gb_alloc (gb_alloc (gb_refl w none) _) _) hg;have HB:Hd (w.heap.size<=A/\A+1 < w1.heap.size):=⟨Nat.le_of_eq hA,(hqL HZ.o)⟩
 try rw [hA]
 clear hA hg;have z0:w1.cell? ⟨A+1,0,none⟩=some (.int .i64 0):=by rw [cOH (show _=_ from HZ.o)];rfl
 have z1:w1.cell? ⟨A+1,1,none⟩=some (.int .i64 0):=by rw [cOH (show _=_ from HZ.o)];rfl
 have z2:w1.cell? ⟨A+1,2,none⟩=some (.int .i64 0):=by rw [cOH (show _=_ from HZ.o)];rfl
 have z3:w1.cell? ⟨A+1,3,none⟩=some (.string ⟨#[]⟩):=by rw [cOH (show _=_ from HZ.o)];rfl
 have z4:w1.cell? ⟨A+1,4,none⟩=some (.string ⟨#[]⟩):=by rw [cOH (show _=_ from HZ.o)];rfl
 have z5:w1.cell? ⟨A+1,5,none⟩=some (.int .i64 0):=by rw [cOH (show _=_ from HZ.o)];rfl
 have z6:w1.cell? ⟨A+1,6,none⟩=some (.int .i64 0):=by rw [cOH (show _=_ from HZ.o)];rfl
 have z7:w1.cell? ⟨A+1,7,none⟩=some (.int .i64 0):=by rw [cOH (show _=_ from HZ.o)];rfl
 have z8:w1.cell? ⟨A+1,8,none⟩=some (.string ⟨#[]⟩):=by rw [cOH (show _=_ from HZ.o)];rfl
 have z9:w1.cell? ⟨A+1,9,none⟩=some (.string ⟨#[]⟩):=by rw [cOH (show _=_ from HZ.o)];rfl
 have z10:w1.cell? ⟨A+1,10,none⟩=some (.bool false):=by rw [cOH (show _=_ from HZ.o)];rfl
 have zf:∀o,w1.frozen? ⟨A+1,o,none⟩=false:=fun o=>HZ.o.f o
 go_wp2;have hrw:=HZ.o;unfold SZ at hrw;have hb:=HB.o;refine bodyPost_ret (results_cell_row rfl _ _ (A+1) 110 #[.int .i64 x1,.int .i64 x2,.int .i64 x3,.string x4,.string x5,.int .i64 y1,.int .i64 y2,.int .i64 y3,.string y4,.string y5,.bool o] (0,0) _ rfl ?_ Tryz.underlying110 rfl (by kernel_rfl)) rfl ⟨rfl,by repeat (first | refine gb_setC ?_ (by omega) | exact HG.o)⟩;simp [World.setCell,Array.getElem?_modify,hrw]
set_option maxRecDepth 100000 in
theorem caret_any (k:Int) (a b c n x1 x2 x3 y1 y2 y3:Int) (P x4 x5 y4 y5:ByteArray) (o:Bool) (w:World) (CL:∀w,Calls Tryz.prog 131 #[.agg #[.int .i64 a,.int .i64 b,.int .i64 c,.string P,.string ⟨#[]⟩,.int .i64 n]] w fun e w'=>e=.returned (.int .i64 k)/\w.grownBy w' none) (CN:∀w,Calls Tryz.prog 130 #[.agg #[.int .i64 a,.int .i64 b,.int .i64 c,.string P,.string ⟨#[]⟩,.int .i64 n],.int .i64 k] w fun e w'=>e=.returned (.agg #[.int .i64 x1,.int .i64 x2,.int .i64 x3,.string x4,.string x5,.int .i64 y1,.int .i64 y2,.int .i64 y3,.string y4,.string y5,.bool o])/\w.grownBy w' none) :
  Calls Tryz.prog 129 #[.agg #[.int .i64 a,.int .i64 b,.int .i64 c,.string P,.string ⟨#[]⟩,.int .i64 n]] w fun e w'=>e=.returned (.agg #[.int .i64 x1,.int .i64 x2,.int .i64 x3,.string x4,.string x5,.int .i64 y1,.int .i64 y2,.int .i64 y3,.string y4,.string y5,.bool o])/\w.grownBy w' none:=by
 have CB:Hd (∀w,Calls Tryz.prog 130 #[.agg #[.int .i64 a,.int .i64 b,.int .i64 c,.string P,.string ⟨#[]⟩,.int .i64 n],.int .i64 k] w fun e w'=>e=.returned (.agg #[.int .i64 x1,.int .i64 x2,.int .i64 x3,.string x4,.string x5,.int .i64 y1,.int .i64 y2,.int .i64 y3,.string y4,.string y5,.bool o])/\w.grownBy w' none):=CN;have CE:Hd (∀w,Calls Tryz.prog 131 #[.agg #[.int .i64 a,.int .i64 b,.int .i64 c,.string P,.string ⟨#[]⟩,.int .i64 n]] w fun e w'=>e=.returned (.int .i64 k)/\w.grownBy w' none):=CL;clear CN CL;go_enter Tryz.func129,Tryz.ntmps129;go_wp2_with (fail);obtain ⟨A,hA⟩:=nm (w.heap.size);obtain ⟨W,hW⟩:=nm ((w.alloc (.cells #[.int .i64 a,.int .i64 b,.int .i64 c,.string P,.string ⟨#[]⟩,.int .i64 n] 163)).alloc (.cells #[.int .i64 0,.int .i64 0,.int .i64 0,.string ⟨#[]⟩,.string ⟨#[]⟩,.int .i64 0,.int .i64 0,.int .i64 0,.string ⟨#[]⟩,.string ⟨#[]⟩,.bool false] 110));have HV:Hd (PB A a b c P n W):=by
  show PB A a b c P n W;unfold PB;rw [<-hW,<-hA,Lib.alloc_old _ _ _ (by simp)];exact heap_alloc_new w _
 have HZ:Hd (SZ (A+1) W):=by
  show SZ (A+1) W;unfold SZ;rw [<-hW,<-hA];exact row2' w _ _
 have HG:Hd (w.grownBy W none):=by show w.grownBy W none;rw [<-hW];exact gb_alloc (gb_alloc (gb_refl w none) _) _
 have HB:Hd (w.heap.size<=A+1):=by show _<=_;omega
 try rw [hW]
 try rw [hA]
 clear hW hA;obtain ⟨e0,e1,e2,e3,e4,e5⟩:=HV.o.cells
 go_region_held3 (fun w'=>w'.cell? ⟨A,0,none⟩=some (.int .i64 a)/\w'.cell? ⟨A,1,none⟩=some (.int .i64 b)/\w'.cell? ⟨A,2,none⟩=some (.int .i64 c)/\w'.cell? ⟨A,3,none⟩=some (.string P)/\w'.cell? ⟨A,4,none⟩=some (.string ⟨#[]⟩)/\w'.cell? ⟨A,5,none⟩=some (.int .i64 n)) ((first | (simp only [cell_drew,cell_far (Nat.ne_of_lt (Nat.lt_succ_self A))];assumption) | (simp only [cell_drew];exact ⟨e0,e1,e2,e3,e4,e5⟩) | exact keep6p (by assumption) (by assumption))) (first | (go_at_call 131;refine (CE.o _).mono ?_;rintro e w0 ⟨rfl,hg0⟩) | (go_at_call 130;refine (CB.o _).mono ?_;rintro e w1 ⟨rfl,hg1⟩;have hz1:SZ (A+1) w1:=(HZ.o.grow (gb_undrew hg0)).grow hg1;obtain ⟨z0,z1,z2,z3,z4,z5,z6,z7,z8,z9,z10⟩:=hz1.cells;have zf:=hz1.f))
 have HZ1:Hd (SZ (A+1) w1):=hz1;have HGW:Hd (w.grownBy w1 none):=gb_trans HG.o (gb_trans (gb_undrew hg0) hg1);clear hg0 z0 z1 z2 z3 z4 z5 z6 z7 z8 z9 z10 zf hz1 hg1 e0 e1 e2 e3 e4 e5;go_wp2;have hrw:=HZ1.o;unfold SZ at hrw;have hb:=HB.o;refine bodyPost_ret (results_cell_row rfl _ _ (A+1) 110 #[.int .i64 x1,.int .i64 x2,.int .i64 x3,.string x4,.string x5,.int .i64 y1,.int .i64 y2,.int .i64 y3,.string y4,.string y5,.bool o] (0,0) _ rfl ?_ Tryz.underlying110 rfl (by kernel_rfl)) rfl ⟨rfl,by repeat (first | refine gb_setC ?_ (by omega) | exact HGW.o)⟩;simp [World.setCell,Array.getElem?_modify,hrw]
open Go.RowKit
theorem rowR2 (w:World) (o1 o2:Obj):((w.alloc o1).alloc o2).heap[w.heap.size+1]?=some o2:=by
 have:=heap_alloc_new (w.alloc o1) o2;simpa using this
theorem row23 (w:World) (o1 o2 o3:Obj):(((w.alloc o1).alloc o2).alloc o3).heap[w.heap.size+1]?=some o2:=by
 rw [Lib.alloc_old _ _ _ (by simp)];exact rowR2 w o1 o2
theorem add_dot0 (a:ByteArray) (wx:World) (h:a.size < 2 ^ 62):(Op.stringOp .add a ⟨#[46,48]⟩).run Tryz.prog wx=.ok (.string ⟨(a.data.toList++[46,48]).toArray⟩) wx:=by
 have e:a=⟨a.data.toList.toArray⟩:=by cases a;simp
 rw [e,run_string_add_sum wx _ _ (by
  show a.data.toList.toArray.size+2<=_;have:a.data.toList.toArray.size=a.size:=by simp
  rw [this];omega)]
 rw [show (⟨#[46,48]⟩:ByteArray)=⟨[46,48].toArray⟩ from rfl,ByteArray.mk_append_mk]
theorem next_f (a1 a2 a3:Int) (a4 a5:ByteArray) (w:World) (h4:a4.size ≠ 0) (hs:a4.size < 2 ^ 62) :
  Calls Tryz.prog 143 #[.agg #[.int .i64 a1,.int .i64 a2,.int .i64 a3,.string a4,.string a5]] w fun e w'=>e=.returned (.agg #[.int .i64 a1,.int .i64 a2,.int .i64 a3,.string ⟨(a4.data.toList++[46,48]).toArray⟩,.string ⟨#[]⟩])/\w.grownBy w' none:=by
 have c1:=emp_f h4;obtain ⟨X,hX⟩:∃X:ByteArray,X=⟨(a4.data.toList++[46,48]).toArray⟩:=⟨_,rfl⟩;have ad:∀wx,(Op.stringOp .add a4 ⟨#[46,48]⟩).run Tryz.prog wx=.ok (.string X) wx:=fun wx=>by rw [hX];exact add_dot0 a4 wx hs
 rw [<-hX];clear hX h4;go_enter Tryz.func143,Tryz.ntmps143;go_wp2;exact bodyPost_ret (results_cell_row rfl _ _ (w.heap.size+1) 69 _ (0,0) _ rfl (row23 w _ _ _) Tryz.underlying69 rfl (by kernel_rfl)) rfl ⟨rfl,gb_alloc (gb_alloc (gb_alloc (gb_refl w none) _) _) _⟩
theorem next_s (a1 a2 a3:Int) (a4 a5:ByteArray) (w:World) (h4:a4.size=0) (h3:a3 < 4611686018427387904) (h0:-9223372036854775808<=a3) :
  Calls Tryz.prog 143 #[.agg #[.int .i64 a1,.int .i64 a2,.int .i64 a3,.string a4,.string a5]] w fun e w'=>e=.returned (.agg #[.int .i64 a1,.int .i64 a2,.int .i64 (a3+1),.string ⟨#[48]⟩,.string ⟨#[]⟩])/\w.grownBy w' none:=by
 have c1:=emp_t h4;have wr:IntKind.i64.wrap (a3+1)=a3+1:=by rw [IntKind.wrap_i64];omega
 clear h4;go_enter Tryz.func143,Tryz.ntmps143;go_wp2;exact bodyPost_ret (results_cell_row rfl _ _ (w.heap.size+1) 69 _ (0,0) _ rfl (row23 w _ _ _) Tryz.underlying69 rfl (by kernel_rfl)) rfl ⟨rfl,gb_alloc (gb_alloc (gb_alloc (gb_refl w none) _) _) _⟩
theorem next_g (a1 a2 a3:Int) (a4 a5:ByteArray) (w:World) (h4:a4.size=0) (h3:¬ a3 < 4611686018427387904) :
  Calls Tryz.prog 143 #[.agg #[.int .i64 a1,.int .i64 a2,.int .i64 a3,.string a4,.string a5]] w fun e w'=>e=.returned (.agg #[.int .i64 a1,.int .i64 a2,.int .i64 a3,.string ⟨#[48]⟩,.string ⟨#[]⟩])/\w.grownBy w' none:=by
 have c1:=emp_t h4;clear h4;go_enter Tryz.func143,Tryz.ntmps143;go_wp2;exact bodyPost_ret (results_cell_row rfl _ _ (w.heap.size+1) 69 _ (0,0) _ rfl (row23 w _ _ _) Tryz.underlying69 rfl (by kernel_rfl)) rfl ⟨rfl,gb_alloc (gb_alloc (gb_alloc (gb_refl w none) _) _) _⟩
open Go.RowKit
theorem next_one (a1 a2 a3:Int) (a4 a5:ByteArray) (hs:a4.size < 2 ^ 62) (h0:-9223372036854775808<=a3) :
  ∃(n3:Int) (n4:ByteArray),n4.size<=a4.size+2/\(nextV ⟨a1,a2,a3,a4.data.toList⟩=⟨a1,a2,n3,n4.data.toList⟩) ∧
   (∀w,Calls Tryz.prog 143 #[.agg #[.int .i64 a1,.int .i64 a2,.int .i64 a3,.string a4,.string a5]] w fun e w'=>e=.returned (.agg #[.int .i64 a1,.int .i64 a2,.int .i64 n3,.string n4,.string ⟨#[]⟩])/\w.grownBy w' none):=by
 by_cases h4:a4.size=0
 ·have e:a4.data.toList=[]:=List.length_eq_zero_iff.1 (by simpa using h4)
  by_cases h3:a3 < 4611686018427387904
  ·refine ⟨a3+1,⟨#[48]⟩,by show 1<=_;omega,?_,fun w=>next_s a1 a2 a3 a4 a5 w h4 h3 h0⟩;unfold nextV;rw [if_pos e,if_pos h3]
  ·refine ⟨a3,⟨#[48]⟩,by show 1<=_;omega,?_,fun w=>next_g a1 a2 a3 a4 a5 w h4 h3⟩;unfold nextV;rw [if_pos e,if_neg h3]
 ·refine ⟨a3,⟨(a4.data.toList++[46,48]).toArray⟩,?_,?_,fun w=>next_f a1 a2 a3 a4 a5 w h4 hs⟩
  ·show (a4.data.toList++[46,48]).toArray.size<=_;simp
  ·unfold nextV;rw [if_neg (fun e=>h4 (by have e':a4.data.toList=[]:=e;show a4.data.size=0;rw [<-Array.length_toList,e'];rfl))]
open Go.RowKit
def paVal (p:Pa):Value:=.agg #[.int .i64 p.a,.int .i64 p.b,.int .i64 p.c,.string ⟨(firstV p).pre.toArray⟩,.string ⟨#[]⟩,.int .i64 (p.n:Int)]
def sgV (g:Sg):Value:=.agg #[.int .i64 g.fr.major,.int .i64 g.fr.minor,.int .i64 g.fr.patch,.string ⟨g.fr.pre.toArray⟩,.string ⟨#[]⟩,.int .i64 g.to_.major,.int .i64 g.to_.minor,.int .i64 g.to_.patch,.string ⟨g.to_.pre.toArray⟩,.string ⟨#[]⟩,.bool g.op]
def Ans (f:Nat) (args:Array Value) (v:Value):Prop:=∀w,Calls Tryz.prog f args w fun e w'=>e=.returned v/\w.grownBy w' none
theorem cAlike (p:Pa) (hp:PaOk p) (k:Nat) (hk:k<=3):Ans 130 #[paVal p,.int .i64 (k:Int)] (sgV (alikeG p k)):=by
 intro w;have hc:k=0\/k=1\/k=2\/k=3:=by omega
 rcases hc with rfl | rfl | rfl | rfl
 ·exact alike0_any p.a p.b p.c p.n ⟨(firstV p).pre.toArray⟩ w hp.a0 hp.b0 hp.c0
 ·exact alike1_any p.a p.b p.c p.n ⟨(firstV p).pre.toArray⟩ w hp.a0 hp.b0 hp.c0
 ·exact alike2_any p.a p.b p.c p.n ⟨(firstV p).pre.toArray⟩ w hp.a0 hp.b0 hp.c0
 ·exact alike3_any p.a p.b p.c p.n ⟨(firstV p).pre.toArray⟩ w hp.a0 hp.b0 hp.c0
theorem cLeading (p:Pa) (hp:PaOk p):Ans 131 #[paVal p] (.int .i64 (leadN p:Int)):=by
 intro w;unfold paVal leadN
 by_cases h1:p.a=0
 ·by_cases h2:p.b=0
  ·by_cases h3:p.c=0
   ·rw [h1,h2,h3];exact leading3_any p.n ⟨(firstV p).pre.toArray⟩ w
   ·rw [if_neg (not_not_intro h1),if_neg (not_not_intro h2),if_pos h3,h1,h2];exact leading2_any p.c p.n ⟨(firstV p).pre.toArray⟩ w h3
  ·rw [if_neg (not_not_intro h1),if_pos h2,h1];exact leading1_any p.b p.c p.n ⟨(firstV p).pre.toArray⟩ w h2
 ·rw [if_pos h1];exact leading0_any p.a p.b p.c p.n ⟨(firstV p).pre.toArray⟩ w h1
theorem lead_le (p:Pa) (hp:PaOk p):leadN p<=3:=by
 have:=hp.n3;unfold leadN
 repeat' split
 all_goals omega
theorem cNamed (p:Pa) (hp:PaOk p) (hl:p.pre.length < 1000):Ans 128 #[paVal p] (sgV (namedG p)):=by
 intro w
 by_cases h3:p.n=3
 ·obtain ⟨n3,n4,hn,he,h1⟩:=next_one p.a p.b p.c ⟨(firstV p).pre.toArray⟩ ⟨#[]⟩ (by
   show (firstV p).pre.toArray.size < _;unfold firstV;rw [if_neg (by omega)];simp;omega) (by have:=hp.c0;omega)
  have hG:namedG p=⟨firstV p,nextV (firstV p),false⟩:=by unfold namedG;rw [if_pos h3]
  have hV:nextV (firstV p)=⟨p.a,p.b,n3,n4.data.toList⟩:=by
   rw [<-he];rfl
  have:=named3_any p.a p.b p.c n3 ⟨(firstV p).pre.toArray⟩ n4 w h1;unfold paVal;rw [h3,hG,hV];unfold sgV;have e4:(⟨n4.data.toList.toArray⟩:ByteArray)=n4:=by cases n4;simp
  rw [e4];exact this
 ·have hn:=hp.n3;have hG:namedG p=alikeG p p.n:=by unfold namedG;rw [if_neg h3]
  rw [hG];exact namedl_any p.a p.b p.c p.n _ _ _ _ _ _ ⟨(firstV p).pre.toArray⟩ _ _ _ _ _ w (by simp;omega) (fun w=>cAlike p hp p.n hn w)
def signF (s:Int):Nat:=if s=1 then 124 else if s=2 then 125 else if s=3 then 126 else if s=4 then 127 else if s=5 then 129 else if s=6 then 132 else 128
theorem cSign (s:Int) (hs:-1<=s/\s<=6) (p:Pa) (hp:PaOk p) (hl:p.pre.length < 1000):Ans (signF s) #[paVal p] (sgV (signG (if s < 0 then 0 else s) p)):=by
 intro w;have hN:=cNamed p hp hl;have hss:s=-1\/s=0\/s=1\/s=2\/s=3\/s=4\/s=5\/s=6:=by omega
 rcases hss with rfl | rfl | rfl | rfl | rfl | rfl | rfl | rfl
 ·exact hN w
 ·exact hN w
 ·exact signs1_any p.a p.b p.c p.n ⟨(firstV p).pre.toArray⟩ w
 ·exact upTo_any p.a p.b p.c p.n _ _ _ _ _ _ ⟨(firstV p).pre.toArray⟩ _ _ _ _ _ w hN
 ·show Calls _ _ _ _ fun e w'=>e=.returned (sgV (if (namedG p).op=true then ⟨lowV,lowV,false⟩ else ⟨(namedG p).to_,nilV,true⟩))/\_
  cases ho:(namedG p).op with
  | true =>
   have hN':∀w,Calls Tryz.prog 128 #[paVal p] w fun e w'=>e=.returned (.agg #[.int .i64 (namedG p).fr.major,.int .i64 (namedG p).fr.minor,.int .i64 (namedG p).fr.patch,.string ⟨(namedG p).fr.pre.toArray⟩,.string ⟨#[]⟩,.int .i64 (namedG p).to_.major,.int .i64 (namedG p).to_.minor,.int .i64 (namedG p).to_.patch,.string ⟨(namedG p).to_.pre.toArray⟩,.string ⟨#[]⟩,.bool true])/\w.grownBy w' none:=fun w=>by
    have:=hN w;unfold sgV at this;rw [ho] at this;exact this
   exact behind_o p.a p.b p.c p.n _ _ _ _ _ _ ⟨(firstV p).pre.toArray⟩ _ _ _ _ w hN'
  | false =>
   have hN':∀w,Calls Tryz.prog 128 #[paVal p] w fun e w'=>e=.returned (.agg #[.int .i64 (namedG p).fr.major,.int .i64 (namedG p).fr.minor,.int .i64 (namedG p).fr.patch,.string ⟨(namedG p).fr.pre.toArray⟩,.string ⟨#[]⟩,.int .i64 (namedG p).to_.major,.int .i64 (namedG p).to_.minor,.int .i64 (namedG p).to_.patch,.string ⟨(namedG p).to_.pre.toArray⟩,.string ⟨#[]⟩,.bool false])/\w.grownBy w' none:=fun w=>by
    have:=hN w;unfold sgV at this;rw [ho] at this;exact this
   exact behind_c p.a p.b p.c p.n _ _ _ _ _ _ ⟨(firstV p).pre.toArray⟩ _ _ _ _ w hN'
 ·exact signs2_any p.a p.b p.c p.n ⟨(firstV p).pre.toArray⟩ w
 ·exact caret_any (leadN p:Int) p.a p.b p.c p.n _ _ _ _ _ _ ⟨(firstV p).pre.toArray⟩ _ _ _ _ _ w (cLeading p hp) (cAlike p hp (leadN p) (lead_le p hp))
 ·show Calls _ _ _ _ fun e w'=>e=.returned (sgV (alikeG p (min p.n 2)))/\_
  have hn:p.n=0\/p.n=1\/p.n=2\/p.n=3:=by have:=hp.n3;omega
  have hA:=cAlike p hp (min p.n 2) (by omega);unfold paVal at hA ⊢
  rcases hn with h | h | h | h
  ·rw [h] at hA ⊢;exact tilde0_any p.a p.b p.c _ _ _ _ _ _ ⟨(firstV p).pre.toArray⟩ _ _ _ _ _ w hA
  ·rw [h] at hA ⊢;exact tilde1_any p.a p.b p.c _ _ _ _ _ _ ⟨(firstV p).pre.toArray⟩ _ _ _ _ _ w hA
  ·rw [h] at hA ⊢;exact tilde2_any p.a p.b p.c _ _ _ _ _ _ ⟨(firstV p).pre.toArray⟩ _ _ _ _ _ w hA
  ·rw [h] at hA ⊢;exact tilde3_any p.a p.b p.c _ _ _ _ _ _ ⟨(firstV p).pre.toArray⟩ _ _ _ _ _ w hA
theorem cBetween (p q:Pa) (hq:PaOk q) (hl:q.pre.length < 1000):Ans 116 #[paVal p,paVal q] (sgV (betweenG p q)):=by
 intro w;exact between_any p.a p.b p.c p.n ⟨(firstV p).pre.toArray⟩ q.a q.b q.c q.n _ _ _ _ _ _ ⟨(firstV q).pre.toArray⟩ _ _ _ _ _ w (cNamed q hq hl)
end Go.Proofs.YticgahdffjnabaaGreatDoor
