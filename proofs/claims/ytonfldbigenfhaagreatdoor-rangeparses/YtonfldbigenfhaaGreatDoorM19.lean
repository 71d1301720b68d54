import Derived.Test.YtonfldbigenfhaaGreatDoorM18
namespace Go.Proofs.YtonfldbigenfhaaGreatDoor
open Go.RowKit
set_option linter.unusedVariables false
theorem keep6p {p0 p1 p2 p3 p4 p5:Addr} {c0 c1 c2 c3 c4 c5:Value} {w w':World} (hg:w.grownBy w' none) (h:w.cell? p0=some c0/\w.cell? p1=some c1/\w.cell? p2=some c2/\w.cell? p3=some c3/\w.cell? p4=some c4/\w.cell? p5=some c5):w'.cell? p0=some c0/\w'.cell? p1=some c1/\w'.cell? p2=some c2/\w'.cell? p3=some c3/\w'.cell? p4=some c4/\w'.cell? p5=some c5:=by
 obtain ⟨h0,h1,h2,h3,h4,h5⟩:=h
 exact ⟨hg.cell h0 (by simp),hg.cell h1 (by simp),hg.cell h2 (by simp),hg.cell h3 (by simp),hg.cell h4 (by simp),hg.cell h5 (by simp)⟩
set_option maxRecDepth 100000 in
set_option maxHeartbeats 800000 in
theorem named3_any (a b c n3:Int) (P n4:ByteArray) (w:World) (CN:∀w,Calls Tryz.prog 158 #[.agg #[.int .i64 a,.int .i64 b,.int .i64 c,.string P,.string ⟨#[]⟩]] w fun e w'=>e=.returned (.agg #[.int .i64 a,.int .i64 b,.int .i64 n3,.string n4,.string ⟨#[]⟩])/\w.grownBy w' none) :
  Calls Tryz.prog 127 #[.agg #[.int .i64 a,.int .i64 b,.int .i64 c,.string P,.string ⟨#[]⟩,.int .i64 3]] w fun e w'=>e=.returned (.agg #[.int .i64 a,.int .i64 b,.int .i64 c,.string P,.string ⟨#[]⟩,.int .i64 a,.int .i64 b,.int .i64 n3,.string n4,.string ⟨#[]⟩,.bool false])/\w.grownBy w' none:=by
 have CB:Hid (∀w,Calls Tryz.prog 158 #[.agg #[.int .i64 a,.int .i64 b,.int .i64 c,.string P,.string ⟨#[]⟩]] w fun e w'=>e=.returned (.agg #[.int .i64 a,.int .i64 b,.int .i64 n3,.string n4,.string ⟨#[]⟩])/\w.grownBy w' none):=CN
 clear CN
 go_enter Tryz.func127,Tryz.ntmps127
 go_wp2_with (fail)
 obtain ⟨A,hA⟩:∃A,w.heap.size=A:=⟨_,rfl⟩
 obtain ⟨W,hW⟩:∃W,(w.alloc (.cells #[.int .i64 a,.int .i64 b,.int .i64 c,.string P,.string ⟨#[]⟩,.int .i64 3] 145)).alloc (.cells #[.int .i64 0,.int .i64 0,.int .i64 0,.string ⟨#[]⟩,.string ⟨#[]⟩,.int .i64 0,.int .i64 0,.int .i64 0,.string ⟨#[]⟩,.string ⟨#[]⟩,.bool false] 37)=W:=⟨_,rfl⟩
 have HV:Hid (PB A a b c P 3 W):=by
  show PB A a b c P 3 W
  unfold PB
  rw [<-hW,<-hA,Lib.alloc_old _ _ _ (by simp)];exact heap_alloc_new w _
 have HZ:Hid (SZ (A+1) W):=by
  show SZ (A+1) W
  unfold SZ
  rw [<-hW,<-hA]
  exact row2' w _ _
 have HG:Hid (w.grownBy W none):=by show w.grownBy W none;rw [<-hW];exact gb_alloc (gb_alloc (gb_refl w none) _) _
 have HB:Hid (w.heap.size<=A+1):=by show _<=_;omega
 try rw [hW]
 try rw [hA]
 clear hW hA
 obtain ⟨e0,e1,e2,e3,e4,e5⟩:=HV.out.cells
 go_region_held3 (fun w'=>w'.cell? ⟨A,0,none⟩=some (.int .i64 a)/\w'.cell? ⟨A,1,none⟩=some (.int .i64 b)/\w'.cell? ⟨A,2,none⟩=some (.int .i64 c)/\w'.cell? ⟨A,3,none⟩=some (.string P)/\w'.cell? ⟨A,4,none⟩=some (.string ⟨#[]⟩)) ((first | (simp only [cell_drew,cell_far (Nat.ne_of_lt (Nat.lt_succ_self A))];assumption) | (simp only [cell_drew];exact ⟨e0,e1,e2,e3,e4⟩) | exact keep5p (by assumption) (by assumption))) (first | (go_at_call 158;refine (CB.out _).mono ?_;rintro e w1 ⟨rfl,hg1⟩;have hz1:SZ (A+1) w1:=HZ.out.grow (gb_undrew hg1);obtain ⟨z0,z1,z2,z3,z4,z5,z6,z7,z8,z9,z10⟩:=hz1.cells;have zf:=hz1.f))
 have HZ1:Hid (SZ (A+1) w1):=hz1
 have HGW:Hid (w.grownBy w1 none):=gb_trans HG.out (gb_undrew hg1)
 clear z0 z1 z2 z3 z4 z5 z6 z7 z8 z9 z10 zf hz1 hg1 e0 e1 e2 e3 e4 e5
 go_wp2
 have hrw:=HZ1.out
 unfold SZ at hrw
 have hb:=HB.out
 refine bodyPost_ret (results_cell_row rfl _ _ (A+1) 37 #[.int .i64 a,.int .i64 b,.int .i64 c,.string P,.string ⟨#[]⟩,.int .i64 a,.int .i64 b,.int .i64 n3,.string n4,.string ⟨#[]⟩,.bool false] (0,0) _ rfl ?_ Tryz.underlying37 rfl (by kernel_rfl)) rfl ⟨rfl,by repeat (first | refine gb_setC ?_ (by omega) | exact HGW.out)⟩
 simp [World.setCell,Array.getElem?_modify,hrw]
set_option maxRecDepth 100000 in
set_option maxHeartbeats 800000 in
theorem namedl_any (a b c n x1 x2 x3 y1 y2 y3:Int) (P x4 x5 y4 y5:ByteArray) (o:Bool) (w:World) (hn:(n == 3)=false) (CN:∀w,Calls Tryz.prog 129 #[.agg #[.int .i64 a,.int .i64 b,.int .i64 c,.string P,.string ⟨#[]⟩,.int .i64 n],.int .i64 n] w fun e w'=>e=.returned (.agg #[.int .i64 x1,.int .i64 x2,.int .i64 x3,.string x4,.string x5,.int .i64 y1,.int .i64 y2,.int .i64 y3,.string y4,.string y5,.bool o])/\w.grownBy w' none) :
  Calls Tryz.prog 127 #[.agg #[.int .i64 a,.int .i64 b,.int .i64 c,.string P,.string ⟨#[]⟩,.int .i64 n]] w fun e w'=>e=.returned (.agg #[.int .i64 x1,.int .i64 x2,.int .i64 x3,.string x4,.string x5,.int .i64 y1,.int .i64 y2,.int .i64 y3,.string y4,.string y5,.bool o])/\w.grownBy w' none:=by
 have CB:Hid (∀w,Calls Tryz.prog 129 #[.agg #[.int .i64 a,.int .i64 b,.int .i64 c,.string P,.string ⟨#[]⟩,.int .i64 n],.int .i64 n] w fun e w'=>e=.returned (.agg #[.int .i64 x1,.int .i64 x2,.int .i64 x3,.string x4,.string x5,.int .i64 y1,.int .i64 y2,.int .i64 y3,.string y4,.string y5,.bool o])/\w.grownBy w' none):=CN
 clear CN
 go_enter Tryz.func127,Tryz.ntmps127
 go_wp2_with (first | (go_at_call 129;refine (CB.out _).mono ?_))
 rintro e w1 ⟨rfl,hg⟩
 obtain ⟨A,hA⟩:∃A,w.heap.size=A:=⟨_,rfl⟩
 have HV:Hid (PB A a b c P n w1):=by
  refine PB.grow (w:=(w.alloc (.cells #[.int .i64 a,.int .i64 b,.int .i64 c,.string P,.string ⟨#[]⟩,.int .i64 n] 145)).alloc (.cells #[.int .i64 0,.int .i64 0,.int .i64 0,.string ⟨#[]⟩,.string ⟨#[]⟩,.int .i64 0,.int .i64 0,.int .i64 0,.string ⟨#[]⟩,.string ⟨#[]⟩,.bool false] 37)) ?_ hg
  unfold PB
  rw [<-hA,Lib.alloc_old _ _ _ (by simp)];exact heap_alloc_new w _
 have HZ:Hid (SZ (A+1) w1):=by
  refine SZ.grow (w:=(w.alloc (.cells #[.int .i64 a,.int .i64 b,.int .i64 c,.string P,.string ⟨#[]⟩,.int .i64 n] 145)).alloc (.cells #[.int .i64 0,.int .i64 0,.int .i64 0,.string ⟨#[]⟩,.string ⟨#[]⟩,.int .i64 0,.int .i64 0,.int .i64 0,.string ⟨#[]⟩,.string ⟨#[]⟩,.bool false] 37)) ?_ hg
  unfold SZ
  rw [<-hA]
  exact row2' w _ _
 have HG:Hid (w.grownBy w1 none):=gb_trans (gb_alloc (gb_alloc (gb_refl w none) _) _) hg
 have HB:Hid (w.heap.size<=A/\A+1 < w1.heap.size):=⟨Nat.le_of_eq hA,(Array.getElem?_eq_some_iff.1 HZ.out).1⟩
 try rw [hA]
 clear hA hg
 have z0:w1.cell? ⟨A+1,0,none⟩=some (.int .i64 0):=by rw [Lib.cell_of_heap (show _=_ from HZ.out)];rfl
 have z1:w1.cell? ⟨A+1,1,none⟩=some (.int .i64 0):=by rw [Lib.cell_of_heap (show _=_ from HZ.out)];rfl
 have z2:w1.cell? ⟨A+1,2,none⟩=some (.int .i64 0):=by rw [Lib.cell_of_heap (show _=_ from HZ.out)];rfl
 have z3:w1.cell? ⟨A+1,3,none⟩=some (.string ⟨#[]⟩):=by rw [Lib.cell_of_heap (show _=_ from HZ.out)];rfl
 have z4:w1.cell? ⟨A+1,4,none⟩=some (.string ⟨#[]⟩):=by rw [Lib.cell_of_heap (show _=_ from HZ.out)];rfl
 have z5:w1.cell? ⟨A+1,5,none⟩=some (.int .i64 0):=by rw [Lib.cell_of_heap (show _=_ from HZ.out)];rfl
 have z6:w1.cell? ⟨A+1,6,none⟩=some (.int .i64 0):=by rw [Lib.cell_of_heap (show _=_ from HZ.out)];rfl
 have z7:w1.cell? ⟨A+1,7,none⟩=some (.int .i64 0):=by rw [Lib.cell_of_heap (show _=_ from HZ.out)];rfl
 have z8:w1.cell? ⟨A+1,8,none⟩=some (.string ⟨#[]⟩):=by rw [Lib.cell_of_heap (show _=_ from HZ.out)];rfl
 have z9:w1.cell? ⟨A+1,9,none⟩=some (.string ⟨#[]⟩):=by rw [Lib.cell_of_heap (show _=_ from HZ.out)];rfl
 have z10:w1.cell? ⟨A+1,10,none⟩=some (.bool false):=by rw [Lib.cell_of_heap (show _=_ from HZ.out)];rfl
 have zf:∀o,w1.frozen? ⟨A+1,o,none⟩=false:=fun o=>HZ.out.f o
 go_wp2
 have hrw:=HZ.out
 unfold SZ at hrw
 have hb:=HB.out
 refine bodyPost_ret (results_cell_row rfl _ _ (A+1) 37 #[.int .i64 x1,.int .i64 x2,.int .i64 x3,.string x4,.string x5,.int .i64 y1,.int .i64 y2,.int .i64 y3,.string y4,.string y5,.bool o] (0,0) _ rfl ?_ Tryz.underlying37 rfl (by kernel_rfl)) rfl ⟨rfl,by repeat (first | refine gb_setC ?_ (by omega) | exact HG.out)⟩
 simp [World.setCell,Array.getElem?_modify,hrw]
set_option maxRecDepth 100000 in
set_option maxHeartbeats 800000 in
theorem signs2_any (a b c n:Int) (P:ByteArray) (w:World) :
  Calls Tryz.prog 126 #[.agg #[.int .i64 a,.int .i64 b,.int .i64 c,.string P,.string ⟨#[]⟩,.int .i64 n]] w fun e w'=>e=.returned (.agg #[.int .i64 0,.int .i64 0,.int .i64 0,.string ⟨#[48]⟩,.string ⟨#[]⟩,.int .i64 a,.int .i64 b,.int .i64 c,.string P,.string ⟨#[]⟩,.bool false])/\w.grownBy w' none:=by
 have CB:Hid (∀w,Calls Tryz.prog 46 #[] w fun e w'=>e=.returned (.agg #[.int .i64 0,.int .i64 0,.int .i64 0,.string ⟨#[48]⟩,.string ⟨#[]⟩])/\w.grownBy w' none):=low_any
 go_enter Tryz.func126,Tryz.ntmps126
 go_wp2_with (fail)
 obtain ⟨A,hA⟩:∃A,w.heap.size=A:=⟨_,rfl⟩
 obtain ⟨W,hW⟩:∃W,(w.alloc (.cells #[.int .i64 a,.int .i64 b,.int .i64 c,.string P,.string ⟨#[]⟩,.int .i64 n] 145)).alloc (.cells #[.int .i64 0,.int .i64 0,.int .i64 0,.string ⟨#[]⟩,.string ⟨#[]⟩,.int .i64 0,.int .i64 0,.int .i64 0,.string ⟨#[]⟩,.string ⟨#[]⟩,.bool false] 37)=W:=⟨_,rfl⟩
 have HV:Hid (PB A a b c P n W):=by
  show PB A a b c P n W
  unfold PB
  rw [<-hW,<-hA,Lib.alloc_old _ _ _ (by simp)];exact heap_alloc_new w _
 have HZ:Hid (SZ (A+1) W):=by
  show SZ (A+1) W
  unfold SZ
  rw [<-hW,<-hA]
  exact row2' w _ _
 have HG:Hid (w.grownBy W none):=by show w.grownBy W none;rw [<-hW];exact gb_alloc (gb_alloc (gb_refl w none) _) _
 have HB:Hid (w.heap.size<=A+1):=by show _<=_;omega
 try rw [hW]
 try rw [hA]
 clear hW hA
 obtain ⟨e0,e1,e2,e3,e4,e5⟩:=HV.out.cells
 go_region_held3 (fun w'=>w'.cell? ⟨A,0,none⟩=some (.int .i64 a)/\w'.cell? ⟨A,1,none⟩=some (.int .i64 b)/\w'.cell? ⟨A,2,none⟩=some (.int .i64 c)/\w'.cell? ⟨A,3,none⟩=some (.string P)/\w'.cell? ⟨A,4,none⟩=some (.string ⟨#[]⟩)) ((first | (simp only [cell_drew,cell_far (Nat.ne_of_lt (Nat.lt_succ_self A))];assumption) | (simp only [cell_drew];exact ⟨e0,e1,e2,e3,e4⟩) | exact keep5p (by assumption) (by assumption))) (first | (go_at_call 46;refine (CB.out _).mono ?_;rintro e w1 ⟨rfl,hg1⟩;have hz1:SZ (A+1) w1:=HZ.out.grow (gb_undrew hg1);obtain ⟨z0,z1,z2,z3,z4,z5,z6,z7,z8,z9,z10⟩:=hz1.cells;have zf:=hz1.f))
 have HZ1:Hid (SZ (A+1) w1):=hz1
 have HGW:Hid (w.grownBy w1 none):=gb_trans HG.out (gb_undrew hg1)
 clear z0 z1 z2 z3 z4 z5 z6 z7 z8 z9 z10 zf hz1 hg1 e0 e1 e2 e3 e4 e5
 go_wp2
 have hrw:=HZ1.out
 unfold SZ at hrw
 have hb:=HB.out
 refine bodyPost_ret (results_cell_row rfl _ _ (A+1) 37 #[.int .i64 0,.int .i64 0,.int .i64 0,.string ⟨#[48]⟩,.string ⟨#[]⟩,.int .i64 a,.int .i64 b,.int .i64 c,.string P,.string ⟨#[]⟩,.bool false] (0,0) _ rfl ?_ Tryz.underlying37 rfl (by kernel_rfl)) rfl ⟨rfl,by repeat (first | refine gb_setC ?_ (by omega) | exact HGW.out)⟩
 simp [World.setCell,Array.getElem?_modify,hrw]
set_option maxRecDepth 100000 in
set_option maxHeartbeats 800000 in
theorem tilde0_any (a b c x1 x2 x3 y1 y2 y3:Int) (P x4 x5 y4 y5:ByteArray) (o:Bool) (w:World) (CN:∀w,Calls Tryz.prog 129 #[.agg #[.int .i64 a,.int .i64 b,.int .i64 c,.string P,.string ⟨#[]⟩,.int .i64 0],.int .i64 0] w fun e w'=>e=.returned (.agg #[.int .i64 x1,.int .i64 x2,.int .i64 x3,.string x4,.string x5,.int .i64 y1,.int .i64 y2,.int .i64 y3,.string y4,.string y5,.bool o])/\w.grownBy w' none) :
  Calls Tryz.prog 131 #[.agg #[.int .i64 a,.int .i64 b,.int .i64 c,.string P,.string ⟨#[]⟩,.int .i64 0]] w fun e w'=>e=.returned (.agg #[.int .i64 x1,.int .i64 x2,.int .i64 x3,.string x4,.string x5,.int .i64 y1,.int .i64 y2,.int .i64 y3,.string y4,.string y5,.bool o])/\w.grownBy w' none:=by
 have CB:Hid (∀w,Calls Tryz.prog 129 #[.agg #[.int .i64 a,.int .i64 b,.int .i64 c,.string P,.string ⟨#[]⟩,.int .i64 0],.int .i64 0] w fun e w'=>e=.returned (.agg #[.int .i64 x1,.int .i64 x2,.int .i64 x3,.string x4,.string x5,.int .i64 y1,.int .i64 y2,.int .i64 y3,.string y4,.string y5,.bool o])/\w.grownBy w' none):=CN
 clear CN
 go_enter Tryz.func131,Tryz.ntmps131
 go_wp2_with (first | (go_at_call 129;refine (CB.out _).mono ?_))
 rintro e w1 ⟨rfl,hg⟩
 obtain ⟨A,hA⟩:∃A,w.heap.size=A:=⟨_,rfl⟩
 have HV:Hid (PB A a b c P 0 w1):=by
  refine PB.grow (w:=(w.alloc (.cells #[.int .i64 a,.int .i64 b,.int .i64 c,.string P,.string ⟨#[]⟩,.int .i64 0] 145)).alloc (.cells #[.int .i64 0,.int .i64 0,.int .i64 0,.string ⟨#[]⟩,.string ⟨#[]⟩,.int .i64 0,.int .i64 0,.int .i64 0,.string ⟨#[]⟩,.string ⟨#[]⟩,.bool false] 37)) ?_ hg
  unfold PB
  rw [<-hA,Lib.alloc_old _ _ _ (by simp)];exact heap_alloc_new w _
 have HZ:Hid (SZ (A+1) w1):=by
  refine SZ.grow (w:=(w.alloc (.cells #[.int .i64 a,.int .i64 b,.int .i64 c,.string P,.string ⟨#[]⟩,.int .i64 0] 145)).alloc (.cells #[.int .i64 0,.int .i64 0,.int .i64 0,.string ⟨#[]⟩,.string ⟨#[]⟩,.int .i64 0,.int .i64 0,.int .i64 0,.string ⟨#[]⟩,.string ⟨#[]⟩,.bool false] 37)) ?_ hg
  unfold SZ
  rw [<-hA]
  exact row2' w _ _
 have HG:Hid (w.grownBy w1 none):=gb_trans (gb_alloc (gb_alloc (gb_refl w none) _) _) hg
 have HB:Hid (w.heap.size<=A/\A+1 < w1.heap.size):=⟨Nat.le_of_eq hA,(Array.getElem?_eq_some_iff.1 HZ.out).1⟩
 try rw [hA]
 clear hA hg
 have z0:w1.cell? ⟨A+1,0,none⟩=some (.int .i64 0):=by rw [Lib.cell_of_heap (show _=_ from HZ.out)];rfl
 have z1:w1.cell? ⟨A+1,1,none⟩=some (.int .i64 0):=by rw [Lib.cell_of_heap (show _=_ from HZ.out)];rfl
 have z2:w1.cell? ⟨A+1,2,none⟩=some (.int .i64 0):=by rw [Lib.cell_of_heap (show _=_ from HZ.out)];rfl
 have z3:w1.cell? ⟨A+1,3,none⟩=some (.string ⟨#[]⟩):=by rw [Lib.cell_of_heap (show _=_ from HZ.out)];rfl
 have z4:w1.cell? ⟨A+1,4,none⟩=some (.string ⟨#[]⟩):=by rw [Lib.cell_of_heap (show _=_ from HZ.out)];rfl
 have z5:w1.cell? ⟨A+1,5,none⟩=some (.int .i64 0):=by rw [Lib.cell_of_heap (show _=_ from HZ.out)];rfl
 have z6:w1.cell? ⟨A+1,6,none⟩=some (.int .i64 0):=by rw [Lib.cell_of_heap (show _=_ from HZ.out)];rfl
 have z7:w1.cell? ⟨A+1,7,none⟩=some (.int .i64 0):=by rw [Lib.cell_of_heap (show _=_ from HZ.out)];rfl
 have z8:w1.cell? ⟨A+1,8,none⟩=some (.string ⟨#[]⟩):=by rw [Lib.cell_of_heap (show _=_ from HZ.out)];rfl
 have z9:w1.cell? ⟨A+1,9,none⟩=some (.string ⟨#[]⟩):=by rw [Lib.cell_of_heap (show _=_ from HZ.out)];rfl
 have z10:w1.cell? ⟨A+1,10,none⟩=some (.bool false):=by rw [Lib.cell_of_heap (show _=_ from HZ.out)];rfl
 have zf:∀o,w1.frozen? ⟨A+1,o,none⟩=false:=fun o=>HZ.out.f o
 go_wp2
 have hrw:=HZ.out
 unfold SZ at hrw
 have hb:=HB.out
 refine bodyPost_ret (results_cell_row rfl _ _ (A+1) 37 #[.int .i64 x1,.int .i64 x2,.int .i64 x3,.string x4,.string x5,.int .i64 y1,.int .i64 y2,.int .i64 y3,.string y4,.string y5,.bool o] (0,0) _ rfl ?_ Tryz.underlying37 rfl (by kernel_rfl)) rfl ⟨rfl,by repeat (first | refine gb_setC ?_ (by omega) | exact HG.out)⟩
 simp [World.setCell,Array.getElem?_modify,hrw]
set_option maxRecDepth 100000 in
set_option maxHeartbeats 800000 in
theorem tilde1_any (a b c x1 x2 x3 y1 y2 y3:Int) (P x4 x5 y4 y5:ByteArray) (o:Bool) (w:World) (CN:∀w,Calls Tryz.prog 129 #[.agg #[.int .i64 a,.int .i64 b,.int .i64 c,.string P,.string ⟨#[]⟩,.int .i64 1],.int .i64 1] w fun e w'=>e=.returned (.agg #[.int .i64 x1,.int .i64 x2,.int .i64 x3,.string x4,.string x5,.int .i64 y1,.int .i64 y2,.int .i64 y3,.string y4,.string y5,.bool o])/\w.grownBy w' none) :
  Calls Tryz.prog 131 #[.agg #[.int .i64 a,.int .i64 b,.int .i64 c,.string P,.string ⟨#[]⟩,.int .i64 1]] w fun e w'=>e=.returned (.agg #[.int .i64 x1,.int .i64 x2,.int .i64 x3,.string x4,.string x5,.int .i64 y1,.int .i64 y2,.int .i64 y3,.string y4,.string y5,.bool o])/\w.grownBy w' none:=by
 have CB:Hid (∀w,Calls Tryz.prog 129 #[.agg #[.int .i64 a,.int .i64 b,.int .i64 c,.string P,.string ⟨#[]⟩,.int .i64 1],.int .i64 1] w fun e w'=>e=.returned (.agg #[.int .i64 x1,.int .i64 x2,.int .i64 x3,.string x4,.string x5,.int .i64 y1,.int .i64 y2,.int .i64 y3,.string y4,.string y5,.bool o])/\w.grownBy w' none):=CN
 clear CN
 go_enter Tryz.func131,Tryz.ntmps131
 go_wp2_with (first | (go_at_call 129;refine (CB.out _).mono ?_))
 rintro e w1 ⟨rfl,hg⟩
 obtain ⟨A,hA⟩:∃A,w.heap.size=A:=⟨_,rfl⟩
 have HV:Hid (PB A a b c P 1 w1):=by
  refine PB.grow (w:=(w.alloc (.cells #[.int .i64 a,.int .i64 b,.int .i64 c,.string P,.string ⟨#[]⟩,.int .i64 1] 145)).alloc (.cells #[.int .i64 0,.int .i64 0,.int .i64 0,.string ⟨#[]⟩,.string ⟨#[]⟩,.int .i64 0,.int .i64 0,.int .i64 0,.string ⟨#[]⟩,.string ⟨#[]⟩,.bool false] 37)) ?_ hg
  unfold PB
  rw [<-hA,Lib.alloc_old _ _ _ (by simp)];exact heap_alloc_new w _
 have HZ:Hid (SZ (A+1) w1):=by
  refine SZ.grow (w:=(w.alloc (.cells #[.int .i64 a,.int .i64 b,.int .i64 c,.string P,.string ⟨#[]⟩,.int .i64 1] 145)).alloc (.cells #[.int .i64 0,.int .i64 0,.int .i64 0,.string ⟨#[]⟩,.string ⟨#[]⟩,.int .i64 0,.int .i64 0,.int .i64 0,.string ⟨#[]⟩,.string ⟨#[]⟩,.bool false] 37)) ?_ hg
  unfold SZ
  rw [<-hA]
  exact row2' w _ _
 have HG:Hid (w.grownBy w1 none):=gb_trans (gb_alloc (gb_alloc (gb_refl w none) _) _) hg
 have HB:Hid (w.heap.size<=A/\A+1 < w1.heap.size):=⟨Nat.le_of_eq hA,(Array.getElem?_eq_some_iff.1 HZ.out).1⟩
 try rw [hA]
 clear hA hg
 have z0:w1.cell? ⟨A+1,0,none⟩=some (.int .i64 0):=by rw [Lib.cell_of_heap (show _=_ from HZ.out)];rfl
 have z1:w1.cell? ⟨A+1,1,none⟩=some (.int .i64 0):=by rw [Lib.cell_of_heap (show _=_ from HZ.out)];rfl
 have z2:w1.cell? ⟨A+1,2,none⟩=some (.int .i64 0):=by rw [Lib.cell_of_heap (show _=_ from HZ.out)];rfl
 have z3:w1.cell? ⟨A+1,3,none⟩=some (.string ⟨#[]⟩):=by rw [Lib.cell_of_heap (show _=_ from HZ.out)];rfl
 have z4:w1.cell? ⟨A+1,4,none⟩=some (.string ⟨#[]⟩):=by rw [Lib.cell_of_heap (show _=_ from HZ.out)];rfl
 have z5:w1.cell? ⟨A+1,5,none⟩=some (.int .i64 0):=by rw [Lib.cell_of_heap (show _=_ from HZ.out)];rfl
 have z6:w1.cell? ⟨A+1,6,none⟩=some (.int .i64 0):=by rw [Lib.cell_of_heap (show _=_ from HZ.out)];rfl
 have z7:w1.cell? ⟨A+1,7,none⟩=some (.int .i64 0):=by rw [Lib.cell_of_heap (show _=_ from HZ.out)];rfl
 have z8:w1.cell? ⟨A+1,8,none⟩=some (.string ⟨#[]⟩):=by rw [Lib.cell_of_heap (show _=_ from HZ.out)];rfl
 have z9:w1.cell? ⟨A+1,9,none⟩=some (.string ⟨#[]⟩):=by rw [Lib.cell_of_heap (show _=_ from HZ.out)];rfl
 have z10:w1.cell? ⟨A+1,10,none⟩=some (.bool false):=by rw [Lib.cell_of_heap (show _=_ from HZ.out)];rfl
 have zf:∀o,w1.frozen? ⟨A+1,o,none⟩=false:=fun o=>HZ.out.f o
 go_wp2
 have hrw:=HZ.out
 unfold SZ at hrw
 have hb:=HB.out
 refine bodyPost_ret (results_cell_row rfl _ _ (A+1) 37 #[.int .i64 x1,.int .i64 x2,.int .i64 x3,.string x4,.string x5,.int .i64 y1,.int .i64 y2,.int .i64 y3,.string y4,.string y5,.bool o] (0,0) _ rfl ?_ Tryz.underlying37 rfl (by kernel_rfl)) rfl ⟨rfl,by repeat (first | refine gb_setC ?_ (by omega) | exact HG.out)⟩
 simp [World.setCell,Array.getElem?_modify,hrw]
set_option maxRecDepth 100000 in
set_option maxHeartbeats 800000 in
theorem tilde2_any (a b c x1 x2 x3 y1 y2 y3:Int) (P x4 x5 y4 y5:ByteArray) (o:Bool) (w:World) (CN:∀w,Calls Tryz.prog 129 #[.agg #[.int .i64 a,.int .i64 b,.int .i64 c,.string P,.string ⟨#[]⟩,.int .i64 2],.int .i64 2] w fun e w'=>e=.returned (.agg #[.int .i64 x1,.int .i64 x2,.int .i64 x3,.string x4,.string x5,.int .i64 y1,.int .i64 y2,.int .i64 y3,.string y4,.string y5,.bool o])/\w.grownBy w' none) :
  Calls Tryz.prog 131 #[.agg #[.int .i64 a,.int .i64 b,.int .i64 c,.string P,.string ⟨#[]⟩,.int .i64 2]] w fun e w'=>e=.returned (.agg #[.int .i64 x1,.int .i64 x2,.int .i64 x3,.string x4,.string x5,.int .i64 y1,.int .i64 y2,.int .i64 y3,.string y4,.string y5,.bool o])/\w.grownBy w' none:=by
 have CB:Hid (∀w,Calls Tryz.prog 129 #[.agg #[.int .i64 a,.int .i64 b,.int .i64 c,.string P,.string ⟨#[]⟩,.int .i64 2],.int .i64 2] w fun e w'=>e=.returned (.agg #[.int .i64 x1,.int .i64 x2,.int .i64 x3,.string x4,.string x5,.int .i64 y1,.int .i64 y2,.int .i64 y3,.string y4,.string y5,.bool o])/\w.grownBy w' none):=CN
 clear CN
 go_enter Tryz.func131,Tryz.ntmps131
 go_wp2_with (first | (go_at_call 129;refine (CB.out _).mono ?_))
 rintro e w1 ⟨rfl,hg⟩
 obtain ⟨A,hA⟩:∃A,w.heap.size=A:=⟨_,rfl⟩
 have HV:Hid (PB A a b c P 2 w1):=by
  refine PB.grow (w:=(w.alloc (.cells #[.int .i64 a,.int .i64 b,.int .i64 c,.string P,.string ⟨#[]⟩,.int .i64 2] 145)).alloc (.cells #[.int .i64 0,.int .i64 0,.int .i64 0,.string ⟨#[]⟩,.string ⟨#[]⟩,.int .i64 0,.int .i64 0,.int .i64 0,.string ⟨#[]⟩,.string ⟨#[]⟩,.bool false] 37)) ?_ hg
  unfold PB
  rw [<-hA,Lib.alloc_old _ _ _ (by simp)];exact heap_alloc_new w _
 have HZ:Hid (SZ (A+1) w1):=by
  refine SZ.grow (w:=(w.alloc (.cells #[.int .i64 a,.int .i64 b,.int .i64 c,.string P,.string ⟨#[]⟩,.int .i64 2] 145)).alloc (.cells #[.int .i64 0,.int .i64 0,.int .i64 0,.string ⟨#[]⟩,.string ⟨#[]⟩,.int .i64 0,.int .i64 0,.int .i64 0,.string ⟨#[]⟩,.string ⟨#[]⟩,.bool false] 37)) ?_ hg
  unfold SZ
  rw [<-hA]
  exact row2' w _ _
 have HG:Hid (w.grownBy w1 none):=gb_trans (gb_alloc (gb_alloc (gb_refl w none) _) _) hg
 have HB:Hid (w.heap.size<=A/\A+1 < w1.heap.size):=⟨Nat.le_of_eq hA,(Array.getElem?_eq_some_iff.1 HZ.out).1⟩
 try rw [hA]
 clear hA hg
 have z0:w1.cell? ⟨A+1,0,none⟩=some (.int .i64 0):=by rw [Lib.cell_of_heap (show _=_ from HZ.out)];rfl
 have z1:w1.cell? ⟨A+1,1,none⟩=some (.int .i64 0):=by rw [Lib.cell_of_heap (show _=_ from HZ.out)];rfl
 have z2:w1.cell? ⟨A+1,2,none⟩=some (.int .i64 0):=by rw [Lib.cell_of_heap (show _=_ from HZ.out)];rfl
 have z3:w1.cell? ⟨A+1,3,none⟩=some (.string ⟨#[]⟩):=by rw [Lib.cell_of_heap (show _=_ from HZ.out)];rfl
 have z4:w1.cell? ⟨A+1,4,none⟩=some (.string ⟨#[]⟩):=by rw [Lib.cell_of_heap (show _=_ from HZ.out)];rfl
 have z5:w1.cell? ⟨A+1,5,none⟩=some (.int .i64 0):=by rw [Lib.cell_of_heap (show _=_ from HZ.out)];rfl
 have z6:w1.cell? ⟨A+1,6,none⟩=some (.int .i64 0):=by rw [Lib.cell_of_heap (show _=_ from HZ.out)];rfl
 have z7:w1.cell? ⟨A+1,7,none⟩=some (.int .i64 0):=by rw [Lib.cell_of_heap (show _=_ from HZ.out)];rfl
 have z8:w1.cell? ⟨A+1,8,none⟩=some (.string ⟨#[]⟩):=by rw [Lib.cell_of_heap (show _=_ from HZ.out)];rfl
 have z9:w1.cell? ⟨A+1,9,none⟩=some (.string ⟨#[]⟩):=by rw [Lib.cell_of_heap (show _=_ from HZ.out)];rfl
 have z10:w1.cell? ⟨A+1,10,none⟩=some (.bool false):=by rw [Lib.cell_of_heap (show _=_ from HZ.out)];rfl
 have zf:∀o,w1.frozen? ⟨A+1,o,none⟩=false:=fun o=>HZ.out.f o
 go_wp2
 have hrw:=HZ.out
 unfold SZ at hrw
 have hb:=HB.out
 refine bodyPost_ret (results_cell_row rfl _ _ (A+1) 37 #[.int .i64 x1,.int .i64 x2,.int .i64 x3,.string x4,.string x5,.int .i64 y1,.int .i64 y2,.int .i64 y3,.string y4,.string y5,.bool o] (0,0) _ rfl ?_ Tryz.underlying37 rfl (by kernel_rfl)) rfl ⟨rfl,by repeat (first | refine gb_setC ?_ (by omega) | exact HG.out)⟩
 simp [World.setCell,Array.getElem?_modify,hrw]
set_option maxRecDepth 100000 in
set_option maxHeartbeats 800000 in
theorem tilde3_any (a b c x1 x2 x3 y1 y2 y3:Int) (P x4 x5 y4 y5:ByteArray) (o:Bool) (w:World) (CN:∀w,Calls Tryz.prog 129 #[.agg #[.int .i64 a,.int .i64 b,.int .i64 c,.string P,.string ⟨#[]⟩,.int .i64 3],.int .i64 2] w fun e w'=>e=.returned (.agg #[.int .i64 x1,.int .i64 x2,.int .i64 x3,.string x4,.string x5,.int .i64 y1,.int .i64 y2,.int .i64 y3,.string y4,.string y5,.bool o])/\w.grownBy w' none) :
  Calls Tryz.prog 131 #[.agg #[.int .i64 a,.int .i64 b,.int .i64 c,.string P,.string ⟨#[]⟩,.int .i64 3]] w fun e w'=>e=.returned (.agg #[.int .i64 x1,.int .i64 x2,.int .i64 x3,.string x4,.string x5,.int .i64 y1,.int .i64 y2,.int .i64 y3,.string y4,.string y5,.bool o])/\w.grownBy w' none:=by
 have CB:Hid (∀w,Calls Tryz.prog 129 #[.agg #[.int .i64 a,.int .i64 b,.int .i64 c,.string P,.string ⟨#[]⟩,.int .i64 3],.int .i64 2] w fun e w'=>e=.returned (.agg #[.int .i64 x1,.int .i64 x2,.int .i64 x3,.string x4,.string x5,.int .i64 y1,.int .i64 y2,.int .i64 y3,.string y4,.string y5,.bool o])/\w.grownBy w' none):=CN
 clear CN
 go_enter Tryz.func131,Tryz.ntmps131
 go_wp2_with (first | (go_at_call 129;refine (CB.out _).mono ?_))
 rintro e w1 ⟨rfl,hg⟩
 obtain ⟨A,hA⟩:∃A,w.heap.size=A:=⟨_,rfl⟩
 have HV:Hid (PB A a b c P 3 w1):=by
  refine PB.grow (w:=(w.alloc (.cells #[.int .i64 a,.int .i64 b,.int .i64 c,.string P,.string ⟨#[]⟩,.int .i64 3] 145)).alloc (.cells #[.int .i64 0,.int .i64 0,.int .i64 0,.string ⟨#[]⟩,.string ⟨#[]⟩,.int .i64 0,.int .i64 0,.int .i64 0,.string ⟨#[]⟩,.string ⟨#[]⟩,.bool false] 37)) ?_ hg
  unfold PB
  rw [<-hA,Lib.alloc_old _ _ _ (by simp)];exact heap_alloc_new w _
 have HZ:Hid (SZ (A+1) w1):=by
  refine SZ.grow (w:=(w.alloc (.cells #[.int .i64 a,.int .i64 b,.int .i64 c,.string P,.string ⟨#[]⟩,.int .i64 3] 145)).alloc (.cells #[.int .i64 0,.int .i64 0,.int .i64 0,.string ⟨#[]⟩,.string ⟨#[]⟩,.int .i64 0,.int .i64 0,.int .i64 0,.string ⟨#[]⟩,.string ⟨#[]⟩,.bool false] 37)) ?_ hg
  unfold SZ
  rw [<-hA]
  exact row2' w _ _
 have HG:Hid (w.grownBy w1 none):=gb_trans (gb_alloc (gb_alloc (gb_refl w none) _) _) hg
 have HB:Hid (w.heap.size<=A/\A+1 < w1.heap.size):=⟨Nat.le_of_eq hA,(Array.getElem?_eq_some_iff.1 HZ.out).1⟩
 try rw [hA]
 clear hA hg
 have z0:w1.cell? ⟨A+1,0,none⟩=some (.int .i64 0):=by rw [Lib.cell_of_heap (show _=_ from HZ.out)];rfl
 have z1:w1.cell? ⟨A+1,1,none⟩=some (.int .i64 0):=by rw [Lib.cell_of_heap (show _=_ from HZ.out)];rfl
 have z2:w1.cell? ⟨A+1,2,none⟩=some (.int .i64 0):=by rw [Lib.cell_of_heap (show _=_ from HZ.out)];rfl
 have z3:w1.cell? ⟨A+1,3,none⟩=some (.string ⟨#[]⟩):=by rw [Lib.cell_of_heap (show _=_ from HZ.out)];rfl
 have z4:w1.cell? ⟨A+1,4,none⟩=some (.string ⟨#[]⟩):=by rw [Lib.cell_of_heap (show _=_ from HZ.out)];rfl
 have z5:w1.cell? ⟨A+1,5,none⟩=some (.int .i64 0):=by rw [Lib.cell_of_heap (show _=_ from HZ.out)];rfl
 have z6:w1.cell? ⟨A+1,6,none⟩=some (.int .i64 0):=by rw [Lib.cell_of_heap (show _=_ from HZ.out)];rfl
 have z7:w1.cell? ⟨A+1,7,none⟩=some (.int .i64 0):=by rw [Lib.cell_of_heap (show _=_ from HZ.out)];rfl
 have z8:w1.cell? ⟨A+1,8,none⟩=some (.string ⟨#[]⟩):=by rw [Lib.cell_of_heap (show _=_ from HZ.out)];rfl
 have z9:w1.cell? ⟨A+1,9,none⟩=some (.string ⟨#[]⟩):=by rw [Lib.cell_of_heap (show _=_ from HZ.out)];rfl
 have z10:w1.cell? ⟨A+1,10,none⟩=some (.bool false):=by rw [Lib.cell_of_heap (show _=_ from HZ.out)];rfl
 have zf:∀o,w1.frozen? ⟨A+1,o,none⟩=false:=fun o=>HZ.out.f o
 go_wp2
 have hrw:=HZ.out
 unfold SZ at hrw
 have hb:=HB.out
 refine bodyPost_ret (results_cell_row rfl _ _ (A+1) 37 #[.int .i64 x1,.int .i64 x2,.int .i64 x3,.string x4,.string x5,.int .i64 y1,.int .i64 y2,.int .i64 y3,.string y4,.string y5,.bool o] (0,0) _ rfl ?_ Tryz.underlying37 rfl (by kernel_rfl)) rfl ⟨rfl,by repeat (first | refine gb_setC ?_ (by omega) | exact HG.out)⟩
 simp [World.setCell,Array.getElem?_modify,hrw]
set_option maxRecDepth 100000 in
set_option maxHeartbeats 800000 in
theorem caret_any (k:Int) (a b c n x1 x2 x3 y1 y2 y3:Int) (P x4 x5 y4 y5:ByteArray) (o:Bool) (w:World) (CL:∀w,Calls Tryz.prog 130 #[.agg #[.int .i64 a,.int .i64 b,.int .i64 c,.string P,.string ⟨#[]⟩,.int .i64 n]] w fun e w'=>e=.returned (.int .i64 k)/\w.grownBy w' none) (CN:∀w,Calls Tryz.prog 129 #[.agg #[.int .i64 a,.int .i64 b,.int .i64 c,.string P,.string ⟨#[]⟩,.int .i64 n],.int .i64 k] w fun e w'=>e=.returned (.agg #[.int .i64 x1,.int .i64 x2,.int .i64 x3,.string x4,.string x5,.int .i64 y1,.int .i64 y2,.int .i64 y3,.string y4,.string y5,.bool o])/\w.grownBy w' none) :
  Calls Tryz.prog 128 #[.agg #[.int .i64 a,.int .i64 b,.int .i64 c,.string P,.string ⟨#[]⟩,.int .i64 n]] w fun e w'=>e=.returned (.agg #[.int .i64 x1,.int .i64 x2,.int .i64 x3,.string x4,.string x5,.int .i64 y1,.int .i64 y2,.int .i64 y3,.string y4,.string y5,.bool o])/\w.grownBy w' none:=by
 have CB:Hid (∀w,Calls Tryz.prog 129 #[.agg #[.int .i64 a,.int .i64 b,.int .i64 c,.string P,.string ⟨#[]⟩,.int .i64 n],.int .i64 k] w fun e w'=>e=.returned (.agg #[.int .i64 x1,.int .i64 x2,.int .i64 x3,.string x4,.string x5,.int .i64 y1,.int .i64 y2,.int .i64 y3,.string y4,.string y5,.bool o])/\w.grownBy w' none):=CN
 have CE:Hid (∀w,Calls Tryz.prog 130 #[.agg #[.int .i64 a,.int .i64 b,.int .i64 c,.string P,.string ⟨#[]⟩,.int .i64 n]] w fun e w'=>e=.returned (.int .i64 k)/\w.grownBy w' none):=CL
 clear CN CL
 go_enter Tryz.func128,Tryz.ntmps128
 go_wp2_with (fail)
 obtain ⟨A,hA⟩:∃A,w.heap.size=A:=⟨_,rfl⟩
 obtain ⟨W,hW⟩:∃W,(w.alloc (.cells #[.int .i64 a,.int .i64 b,.int .i64 c,.string P,.string ⟨#[]⟩,.int .i64 n] 145)).alloc (.cells #[.int .i64 0,.int .i64 0,.int .i64 0,.string ⟨#[]⟩,.string ⟨#[]⟩,.int .i64 0,.int .i64 0,.int .i64 0,.string ⟨#[]⟩,.string ⟨#[]⟩,.bool false] 37)=W:=⟨_,rfl⟩
 have HV:Hid (PB A a b c P n W):=by
  show PB A a b c P n W
  unfold PB
  rw [<-hW,<-hA,Lib.alloc_old _ _ _ (by simp)];exact heap_alloc_new w _
 have HZ:Hid (SZ (A+1) W):=by
  show SZ (A+1) W
  unfold SZ
  rw [<-hW,<-hA]
  exact row2' w _ _
 have HG:Hid (w.grownBy W none):=by show w.grownBy W none;rw [<-hW];exact gb_alloc (gb_alloc (gb_refl w none) _) _
 have HB:Hid (w.heap.size<=A+1):=by show _<=_;omega
 try rw [hW]
 try rw [hA]
 clear hW hA
 obtain ⟨e0,e1,e2,e3,e4,e5⟩:=HV.out.cells
 go_region_held3 (fun w'=>w'.cell? ⟨A,0,none⟩=some (.int .i64 a)/\w'.cell? ⟨A,1,none⟩=some (.int .i64 b)/\w'.cell? ⟨A,2,none⟩=some (.int .i64 c)/\w'.cell? ⟨A,3,none⟩=some (.string P)/\w'.cell? ⟨A,4,none⟩=some (.string ⟨#[]⟩)/\w'.cell? ⟨A,5,none⟩=some (.int .i64 n)) ((first | (simp only [cell_drew,cell_far (Nat.ne_of_lt (Nat.lt_succ_self A))];assumption) | (simp only [cell_drew];exact ⟨e0,e1,e2,e3,e4,e5⟩) | exact keep6p (by assumption) (by assumption))) (first | (go_at_call 130;refine (CE.out _).mono ?_;rintro e w0 ⟨rfl,hg0⟩) | (go_at_call 129;refine (CB.out _).mono ?_;rintro e w1 ⟨rfl,hg1⟩;have hz1:SZ (A+1) w1:=(HZ.out.grow (gb_undrew hg0)).grow hg1;obtain ⟨z0,z1,z2,z3,z4,z5,z6,z7,z8,z9,z10⟩:=hz1.cells;have zf:=hz1.f))
 have HZ1:Hid (SZ (A+1) w1):=hz1
 have HGW:Hid (w.grownBy w1 none):=gb_trans HG.out (gb_trans (gb_undrew hg0) hg1)
 clear hg0 z0 z1 z2 z3 z4 z5 z6 z7 z8 z9 z10 zf hz1 hg1 e0 e1 e2 e3 e4 e5
 go_wp2
 have hrw:=HZ1.out
 unfold SZ at hrw
 have hb:=HB.out
 refine bodyPost_ret (results_cell_row rfl _ _ (A+1) 37 #[.int .i64 x1,.int .i64 x2,.int .i64 x3,.string x4,.string x5,.int .i64 y1,.int .i64 y2,.int .i64 y3,.string y4,.string y5,.bool o] (0,0) _ rfl ?_ Tryz.underlying37 rfl (by kernel_rfl)) rfl ⟨rfl,by repeat (first | refine gb_setC ?_ (by omega) | exact HGW.out)⟩
 simp [World.setCell,Array.getElem?_modify,hrw]
end Go.Proofs.YtonfldbigenfhaaGreatDoor
