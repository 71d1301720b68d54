import Derived.Test.YtonfldbigenfhaaGreatDoorM17
namespace Go.Proofs.YtonfldbigenfhaaGreatDoor
open Go.RowKit
set_option linter.unusedVariables false
set_option maxHeartbeats 800000 in
theorem low_any (w:World) :
  Calls Tryz.prog 46 #[] w fun e w'=>e=.returned (.agg #[.int .i64 0,.int .i64 0,.int .i64 0,.string ⟨#[48]⟩,.string ⟨#[]⟩])/\w.grownBy w' none:=by
 go_enter Tryz.func46,Tryz.ntmps46
 go_wp2
 refine bodyPost_ret (results_cell_row rfl _ _ w.heap.size 35 #[.int .i64 0,.int .i64 0,.int .i64 0,.string ⟨#[48]⟩,.string ⟨#[]⟩] (0,0) _ rfl ?_ Tryz.underlying35 rfl (by kernel_rfl)) rfl ⟨rfl,gb_alloc (gb_refl w none) _⟩
 exact heap_alloc_new w _
theorem row3' (w:World) (o1 o2 o3:Obj):(((w.alloc o1).alloc o2).alloc o3).heap[w.heap.size+2]?=some o3:=by
 have:=heap_alloc_new ((w.alloc o1).alloc o2) o3
 simpa using this
theorem row2' (w:World) (o1 o2:Obj):((w.alloc o1).alloc o2).heap[w.heap.size+1]?=some o2:=by
 have:=heap_alloc_new (w.alloc o1) o2
 simpa using this
set_option maxRecDepth 100000 in
set_option maxHeartbeats 800000 in
theorem upTo_any (a b c n x1 x2 x3 y1 y2 y3:Int) (P x4 x5 y4 y5:ByteArray) (o:Bool) (w:World) (CN:∀w,Calls Tryz.prog 127 #[.agg #[.int .i64 a,.int .i64 b,.int .i64 c,.string P,.string ⟨#[]⟩,.int .i64 n]] w fun e w'=>e=.returned (.agg #[.int .i64 x1,.int .i64 x2,.int .i64 x3,.string x4,.string x5,.int .i64 y1,.int .i64 y2,.int .i64 y3,.string y4,.string y5,.bool o])/\w.grownBy w' none) :
  Calls Tryz.prog 124 #[.agg #[.int .i64 a,.int .i64 b,.int .i64 c,.string P,.string ⟨#[]⟩,.int .i64 n]] w fun e w'=>e=.returned (.agg #[.int .i64 0,.int .i64 0,.int .i64 0,.string ⟨#[48]⟩,.string ⟨#[]⟩,.int .i64 y1,.int .i64 y2,.int .i64 y3,.string y4,.string y5,.bool o])/\w.grownBy w' none:=by
 have HN:Hid (∀w,Calls Tryz.prog 127 #[.agg #[.int .i64 a,.int .i64 b,.int .i64 c,.string P,.string ⟨#[]⟩,.int .i64 n]] w fun e w'=>e=.returned (.agg #[.int .i64 x1,.int .i64 x2,.int .i64 x3,.string x4,.string x5,.int .i64 y1,.int .i64 y2,.int .i64 y3,.string y4,.string y5,.bool o])/\w.grownBy w' none):=CN
 have HL:Hid (∀w,Calls Tryz.prog 46 #[] w fun e w'=>e=.returned (.agg #[.int .i64 0,.int .i64 0,.int .i64 0,.string ⟨#[48]⟩,.string ⟨#[]⟩])/\w.grownBy w' none):=low_any
 clear CN
 go_enter Tryz.func124,Tryz.ntmps124
 go_wp2_with (first | (go_at_call 127;refine (HN.out _).mono ?_))
 rintro e w1 ⟨rfl,hg⟩
 obtain ⟨A,hA⟩:∃A,w.heap.size=A:=⟨_,rfl⟩
 have HV:Hid (PB A a b c P n w1):=by
  refine PB.grow (w:=(w.alloc (.cells #[.int .i64 a,.int .i64 b,.int .i64 c,.string P,.string ⟨#[]⟩,.int .i64 n] 145)).alloc (.cells #[.int .i64 0,.int .i64 0,.int .i64 0,.string ⟨#[]⟩,.string ⟨#[]⟩,.int .i64 0,.int .i64 0,.int .i64 0,.string ⟨#[]⟩,.string ⟨#[]⟩,.bool false] 37)) ?_ hg
  unfold PB
  rw [<-hA,Lib.alloc_old _ _ _ (by simp)];exact heap_alloc_new w _
 have HZ:Hid (SZ (A+1) w1):=by
  refine SZ.grow (w:=(w.alloc (.cells #[.int .i64 a,.int .i64 b,.int .i64 c,.string P,.string ⟨#[]⟩,.int .i64 n] 145)).alloc (.cells #[.int .i64 0,.int .i64 0,.int .i64 0,.string ⟨#[]⟩,.string ⟨#[]⟩,.int .i64 0,.int .i64 0,.int .i64 0,.string ⟨#[]⟩,.string ⟨#[]⟩,.bool false] 37)) ?_ hg
  unfold SZ
  rw [<-hA]
  exact row2' w _ _
 have HG:Hid (w.grownBy w1 none):=gb_trans (gb_alloc (gb_alloc (gb_refl w none) _) _) hg
 have HB:Hid (w.heap.size<=A/\A+1 < w1.heap.size):=⟨Nat.le_of_eq hA,(Array.getElem?_eq_some_iff.1 HZ.out).1⟩
 try rw [hA]
 clear hA hg
 go_wp2_with (fail)
 obtain ⟨C,hC⟩:∃C,w1.heap.size=C:=⟨_,rfl⟩
 obtain ⟨W,hW⟩:∃W,w1.alloc (.cells #[.int .i64 x1,.int .i64 x2,.int .i64 x3,.string x4,.string x5,.int .i64 y1,.int .i64 y2,.int .i64 y3,.string y4,.string y5,.bool o] 37)=W:=⟨_,rfl⟩
 have hgW:w1.grownBy W none:=by rw [<-hW];exact gb_alloc (gb_refl w1 none) _
 have HVW:Hid (PB A a b c P n W):=HV.out.grow hgW
 have HZW:Hid (SZ (A+1) W):=HZ.out.grow hgW
 have HCW:Hid (W.heap[C]?=some (.cells #[.int .i64 x1,.int .i64 x2,.int .i64 x3,.string x4,.string x5,.int .i64 y1,.int .i64 y2,.int .i64 y3,.string y4,.string y5,.bool o] 37 (0,0))):=by show _=_;rw [<-hW,<-hC];exact heap_alloc_new w1 _
 have HGW:Hid (w.grownBy W none):=gb_trans HG.out hgW
 have HCA:Hid (w.heap.size<=A/\A+1 < C/\C < W.heap.size):=by refine ⟨HB.out.1,?_,(Array.getElem?_eq_some_iff.1 HCW.out).1⟩;rw [<-hC];exact HB.out.2
 clear hgW HV HZ HG HB
 try rw [hW]
 try rw [hC]
 clear hW hC
 go_wp2_with (first | (go_at_call 46;refine (HL.out _).mono ?_))
 rintro e w2 ⟨rfl,hg⟩
 have HZ2:Hid (SZ (A+1) w2):=HZW.out.grow hg
 have HC2:Hid (w2.heap[C]?=some (.cells #[.int .i64 x1,.int .i64 x2,.int .i64 x3,.string x4,.string x5,.int .i64 y1,.int .i64 y2,.int .i64 y3,.string y4,.string y5,.bool o] 37 (0,0))):=by show _=_;rw [hg.block C HCA.out.2.2 (by simp)];exact HCW.out
 have HG2:Hid (w.grownBy w2 none):=gb_trans HGW.out hg
 clear hg HVW HZW HCW HGW
 have c0:w2.cell? ⟨C,0,none⟩=some (.int .i64 x1):=by rw [Lib.cell_of_heap HC2.out];rfl
 have c1:w2.cell? ⟨C,1,none⟩=some (.int .i64 x2):=by rw [Lib.cell_of_heap HC2.out];rfl
 have c2:w2.cell? ⟨C,2,none⟩=some (.int .i64 x3):=by rw [Lib.cell_of_heap HC2.out];rfl
 have c3:w2.cell? ⟨C,3,none⟩=some (.string x4):=by rw [Lib.cell_of_heap HC2.out];rfl
 have c4:w2.cell? ⟨C,4,none⟩=some (.string x5):=by rw [Lib.cell_of_heap HC2.out];rfl
 have c5:w2.cell? ⟨C,5,none⟩=some (.int .i64 y1):=by rw [Lib.cell_of_heap HC2.out];rfl
 have c6:w2.cell? ⟨C,6,none⟩=some (.int .i64 y2):=by rw [Lib.cell_of_heap HC2.out];rfl
 have c7:w2.cell? ⟨C,7,none⟩=some (.int .i64 y3):=by rw [Lib.cell_of_heap HC2.out];rfl
 have c8:w2.cell? ⟨C,8,none⟩=some (.string y4):=by rw [Lib.cell_of_heap HC2.out];rfl
 have c9:w2.cell? ⟨C,9,none⟩=some (.string y5):=by rw [Lib.cell_of_heap HC2.out];rfl
 have c10:w2.cell? ⟨C,10,none⟩=some (.bool o):=by rw [Lib.cell_of_heap HC2.out];rfl
 have cf:∀o,w2.frozen? ⟨C,o,none⟩=false:=fun o=>Lib.frozen_of_heap HC2.out o
 have z0:w2.cell? ⟨A+1,0,none⟩=some (.int .i64 0):=by rw [Lib.cell_of_heap (show _=_ from HZ2.out)];rfl
 have z1:w2.cell? ⟨A+1,1,none⟩=some (.int .i64 0):=by rw [Lib.cell_of_heap (show _=_ from HZ2.out)];rfl
 have z2:w2.cell? ⟨A+1,2,none⟩=some (.int .i64 0):=by rw [Lib.cell_of_heap (show _=_ from HZ2.out)];rfl
 have z3:w2.cell? ⟨A+1,3,none⟩=some (.string ⟨#[]⟩):=by rw [Lib.cell_of_heap (show _=_ from HZ2.out)];rfl
 have z4:w2.cell? ⟨A+1,4,none⟩=some (.string ⟨#[]⟩):=by rw [Lib.cell_of_heap (show _=_ from HZ2.out)];rfl
 have z5:w2.cell? ⟨A+1,5,none⟩=some (.int .i64 0):=by rw [Lib.cell_of_heap (show _=_ from HZ2.out)];rfl
 have z6:w2.cell? ⟨A+1,6,none⟩=some (.int .i64 0):=by rw [Lib.cell_of_heap (show _=_ from HZ2.out)];rfl
 have z7:w2.cell? ⟨A+1,7,none⟩=some (.int .i64 0):=by rw [Lib.cell_of_heap (show _=_ from HZ2.out)];rfl
 have z8:w2.cell? ⟨A+1,8,none⟩=some (.string ⟨#[]⟩):=by rw [Lib.cell_of_heap (show _=_ from HZ2.out)];rfl
 have z9:w2.cell? ⟨A+1,9,none⟩=some (.string ⟨#[]⟩):=by rw [Lib.cell_of_heap (show _=_ from HZ2.out)];rfl
 have z10:w2.cell? ⟨A+1,10,none⟩=some (.bool false):=by rw [Lib.cell_of_heap (show _=_ from HZ2.out)];rfl
 have zf:∀o,w2.frozen? ⟨A+1,o,none⟩=false:=fun o=>HZ2.out.f o
 have hcc:=HCA.out
 have n1:¬ (A+1=C):=by omega
 have n2:¬ (C=A+1):=by omega
 have n3:¬ (A=C):=by omega
 have n4:¬ (C=A):=by omega
 clear hcc
 go_wp2
 have hrw:=HZ2.out
 unfold SZ at hrw
 have hb:=HCA.out
 refine bodyPost_ret (results_cell_row rfl _ _ (A+1) 37 #[.int .i64 0,.int .i64 0,.int .i64 0,.string ⟨#[48]⟩,.string ⟨#[]⟩,.int .i64 y1,.int .i64 y2,.int .i64 y3,.string y4,.string y5,.bool o] (0,0) _ rfl ?_ Tryz.underlying37 rfl (by kernel_rfl)) rfl ⟨rfl,by repeat (first | refine gb_setC ?_ (by omega) | exact HG2.out)⟩
 simp [World.setCell,Array.getElem?_modify,hrw,n2]
set_option maxRecDepth 100000 in
set_option maxHeartbeats 800000 in
theorem behind_o (a b c n x1 x2 x3 y1 y2 y3:Int) (P x4 x5 y4 y5:ByteArray) (w:World) (CN:∀w,Calls Tryz.prog 127 #[.agg #[.int .i64 a,.int .i64 b,.int .i64 c,.string P,.string ⟨#[]⟩,.int .i64 n]] w fun e w'=>e=.returned (.agg #[.int .i64 x1,.int .i64 x2,.int .i64 x3,.string x4,.string x5,.int .i64 y1,.int .i64 y2,.int .i64 y3,.string y4,.string y5,.bool true])/\w.grownBy w' none) :
  Calls Tryz.prog 125 #[.agg #[.int .i64 a,.int .i64 b,.int .i64 c,.string P,.string ⟨#[]⟩,.int .i64 n]] w fun e w'=>e=.returned (.agg #[.int .i64 0,.int .i64 0,.int .i64 0,.string ⟨#[48]⟩,.string ⟨#[]⟩,.int .i64 0,.int .i64 0,.int .i64 0,.string ⟨#[48]⟩,.string ⟨#[]⟩,.bool false])/\w.grownBy w' none:=by
 have HN:Hid (∀w,Calls Tryz.prog 127 #[.agg #[.int .i64 a,.int .i64 b,.int .i64 c,.string P,.string ⟨#[]⟩,.int .i64 n]] w fun e w'=>e=.returned (.agg #[.int .i64 x1,.int .i64 x2,.int .i64 x3,.string x4,.string x5,.int .i64 y1,.int .i64 y2,.int .i64 y3,.string y4,.string y5,.bool true])/\w.grownBy w' none):=CN
 have HL:Hid (∀w,Calls Tryz.prog 46 #[] w fun e w'=>e=.returned (.agg #[.int .i64 0,.int .i64 0,.int .i64 0,.string ⟨#[48]⟩,.string ⟨#[]⟩])/\w.grownBy w' none):=low_any
 clear CN
 go_enter Tryz.func125,Tryz.ntmps125
 go_wp2_with (first | (go_at_call 127;refine (HN.out _).mono ?_))
 rintro e w1 ⟨rfl,hg⟩
 obtain ⟨A,hA⟩:∃A,w.heap.size=A:=⟨_,rfl⟩
 have HV:Hid (PB A a b c P n w1):=by
  refine PB.grow (w:=(w.alloc (.cells #[.int .i64 a,.int .i64 b,.int .i64 c,.string P,.string ⟨#[]⟩,.int .i64 n] 145)).alloc (.cells #[.int .i64 0,.int .i64 0,.int .i64 0,.string ⟨#[]⟩,.string ⟨#[]⟩,.int .i64 0,.int .i64 0,.int .i64 0,.string ⟨#[]⟩,.string ⟨#[]⟩,.bool false] 37)) ?_ hg
  unfold PB
  rw [<-hA,Lib.alloc_old _ _ _ (by simp)];exact heap_alloc_new w _
 have HZ:Hid (SZ (A+1) w1):=by
  refine SZ.grow (w:=(w.alloc (.cells #[.int .i64 a,.int .i64 b,.int .i64 c,.string P,.string ⟨#[]⟩,.int .i64 n] 145)).alloc (.cells #[.int .i64 0,.int .i64 0,.int .i64 0,.string ⟨#[]⟩,.string ⟨#[]⟩,.int .i64 0,.int .i64 0,.int .i64 0,.string ⟨#[]⟩,.string ⟨#[]⟩,.bool false] 37)) ?_ hg
  unfold SZ
  rw [<-hA]
  exact row2' w _ _
 have HG:Hid (w.grownBy w1 none):=gb_trans (gb_alloc (gb_alloc (gb_refl w none) _) _) hg
 have HB:Hid (w.heap.size<=A/\A+1 < w1.heap.size):=⟨Nat.le_of_eq hA,(Array.getElem?_eq_some_iff.1 HZ.out).1⟩
 try rw [hA]
 clear hA hg
 go_wp2_with (fail)
 obtain ⟨C,hC⟩:∃C,w1.heap.size=C:=⟨_,rfl⟩
 obtain ⟨W,hW⟩:∃W,w1.alloc (.cells #[.int .i64 x1,.int .i64 x2,.int .i64 x3,.string x4,.string x5,.int .i64 y1,.int .i64 y2,.int .i64 y3,.string y4,.string y5,.bool true] 37)=W:=⟨_,rfl⟩
 have hgW:w1.grownBy W none:=by rw [<-hW];exact gb_alloc (gb_refl w1 none) _
 have HVW:Hid (PB A a b c P n W):=HV.out.grow hgW
 have HZW:Hid (SZ (A+1) W):=HZ.out.grow hgW
 have HCW:Hid (W.heap[C]?=some (.cells #[.int .i64 x1,.int .i64 x2,.int .i64 x3,.string x4,.string x5,.int .i64 y1,.int .i64 y2,.int .i64 y3,.string y4,.string y5,.bool true] 37 (0,0))):=by show _=_;rw [<-hW,<-hC];exact heap_alloc_new w1 _
 have HGW:Hid (w.grownBy W none):=gb_trans HG.out hgW
 have HCA:Hid (w.heap.size<=A/\A+1 < C/\C < W.heap.size):=by refine ⟨HB.out.1,?_,(Array.getElem?_eq_some_iff.1 HCW.out).1⟩;rw [<-hC];exact HB.out.2
 clear hgW HV HZ HG HB
 try rw [hW]
 try rw [hC]
 clear hW hC
 have c0:W.cell? ⟨C,0,none⟩=some (.int .i64 x1):=by rw [Lib.cell_of_heap HCW.out];rfl
 have c1:W.cell? ⟨C,1,none⟩=some (.int .i64 x2):=by rw [Lib.cell_of_heap HCW.out];rfl
 have c2:W.cell? ⟨C,2,none⟩=some (.int .i64 x3):=by rw [Lib.cell_of_heap HCW.out];rfl
 have c3:W.cell? ⟨C,3,none⟩=some (.string x4):=by rw [Lib.cell_of_heap HCW.out];rfl
 have c4:W.cell? ⟨C,4,none⟩=some (.string x5):=by rw [Lib.cell_of_heap HCW.out];rfl
 have c5:W.cell? ⟨C,5,none⟩=some (.int .i64 y1):=by rw [Lib.cell_of_heap HCW.out];rfl
 have c6:W.cell? ⟨C,6,none⟩=some (.int .i64 y2):=by rw [Lib.cell_of_heap HCW.out];rfl
 have c7:W.cell? ⟨C,7,none⟩=some (.int .i64 y3):=by rw [Lib.cell_of_heap HCW.out];rfl
 have c8:W.cell? ⟨C,8,none⟩=some (.string y4):=by rw [Lib.cell_of_heap HCW.out];rfl
 have c9:W.cell? ⟨C,9,none⟩=some (.string y5):=by rw [Lib.cell_of_heap HCW.out];rfl
 have c10:W.cell? ⟨C,10,none⟩=some (.bool true):=by rw [Lib.cell_of_heap HCW.out];rfl
 have cf:∀o,W.frozen? ⟨C,o,none⟩=false:=fun o=>Lib.frozen_of_heap HCW.out o
 go_wp2_with (first | (go_at_call 46;refine (HL.out _).mono ?_))
 rintro e w2 ⟨rfl,hg⟩
 have HZ2:Hid (SZ (A+1) w2):=HZW.out.grow hg
 have HG2:Hid (w.grownBy w2 none):=gb_trans HGW.out hg
 clear hg HVW HZW HCW HGW c0 c1 c2 c3 c4 c5 c6 c7 c8 c9 c10 cf
 go_wp2_with (first | (go_at_call 46;refine (HL.out _).mono ?_))
 rintro e w3 ⟨rfl,hg⟩
 have HZ3:Hid (SZ (A+1) w3):=HZ2.out.grow hg
 have HG3:Hid (w.grownBy w3 none):=gb_trans HG2.out hg
 clear hg HZ2 HG2
 have z0:w3.cell? ⟨A+1,0,none⟩=some (.int .i64 0):=by rw [Lib.cell_of_heap (show _=_ from HZ3.out)];rfl
 have z1:w3.cell? ⟨A+1,1,none⟩=some (.int .i64 0):=by rw [Lib.cell_of_heap (show _=_ from HZ3.out)];rfl
 have z2:w3.cell? ⟨A+1,2,none⟩=some (.int .i64 0):=by rw [Lib.cell_of_heap (show _=_ from HZ3.out)];rfl
 have z3:w3.cell? ⟨A+1,3,none⟩=some (.string ⟨#[]⟩):=by rw [Lib.cell_of_heap (show _=_ from HZ3.out)];rfl
 have z4:w3.cell? ⟨A+1,4,none⟩=some (.string ⟨#[]⟩):=by rw [Lib.cell_of_heap (show _=_ from HZ3.out)];rfl
 have z5:w3.cell? ⟨A+1,5,none⟩=some (.int .i64 0):=by rw [Lib.cell_of_heap (show _=_ from HZ3.out)];rfl
 have z6:w3.cell? ⟨A+1,6,none⟩=some (.int .i64 0):=by rw [Lib.cell_of_heap (show _=_ from HZ3.out)];rfl
 have z7:w3.cell? ⟨A+1,7,none⟩=some (.int .i64 0):=by rw [Lib.cell_of_heap (show _=_ from HZ3.out)];rfl
 have z8:w3.cell? ⟨A+1,8,none⟩=some (.string ⟨#[]⟩):=by rw [Lib.cell_of_heap (show _=_ from HZ3.out)];rfl
 have z9:w3.cell? ⟨A+1,9,none⟩=some (.string ⟨#[]⟩):=by rw [Lib.cell_of_heap (show _=_ from HZ3.out)];rfl
 have z10:w3.cell? ⟨A+1,10,none⟩=some (.bool false):=by rw [Lib.cell_of_heap (show _=_ from HZ3.out)];rfl
 have zf:∀o,w3.frozen? ⟨A+1,o,none⟩=false:=fun o=>HZ3.out.f o
 go_wp2
 have hrw:=HZ3.out
 unfold SZ at hrw
 have hb:=HCA.out
 refine bodyPost_ret (results_cell_row rfl _ _ (A+1) 37 #[.int .i64 0,.int .i64 0,.int .i64 0,.string ⟨#[48]⟩,.string ⟨#[]⟩,.int .i64 0,.int .i64 0,.int .i64 0,.string ⟨#[48]⟩,.string ⟨#[]⟩,.bool false] (0,0) _ rfl ?_ Tryz.underlying37 rfl (by kernel_rfl)) rfl ⟨rfl,by repeat (first | refine gb_setC ?_ (by omega) | exact HG3.out)⟩
 simp [World.setCell,Array.getElem?_modify,hrw]
set_option maxRecDepth 100000 in
set_option maxHeartbeats 800000 in
theorem behind_c (a b c n x1 x2 x3 y1 y2 y3:Int) (P x4 x5 y4 y5:ByteArray) (w:World) (CN:∀w,Calls Tryz.prog 127 #[.agg #[.int .i64 a,.int .i64 b,.int .i64 c,.string P,.string ⟨#[]⟩,.int .i64 n]] w fun e w'=>e=.returned (.agg #[.int .i64 x1,.int .i64 x2,.int .i64 x3,.string x4,.string x5,.int .i64 y1,.int .i64 y2,.int .i64 y3,.string y4,.string y5,.bool false])/\w.grownBy w' none) :
  Calls Tryz.prog 125 #[.agg #[.int .i64 a,.int .i64 b,.int .i64 c,.string P,.string ⟨#[]⟩,.int .i64 n]] w fun e w'=>e=.returned (.agg #[.int .i64 y1,.int .i64 y2,.int .i64 y3,.string y4,.string y5,.int .i64 0,.int .i64 0,.int .i64 0,.string ⟨#[]⟩,.string ⟨#[]⟩,.bool true])/\w.grownBy w' none:=by
 have HN:Hid (∀w,Calls Tryz.prog 127 #[.agg #[.int .i64 a,.int .i64 b,.int .i64 c,.string P,.string ⟨#[]⟩,.int .i64 n]] w fun e w'=>e=.returned (.agg #[.int .i64 x1,.int .i64 x2,.int .i64 x3,.string x4,.string x5,.int .i64 y1,.int .i64 y2,.int .i64 y3,.string y4,.string y5,.bool false])/\w.grownBy w' none):=CN
 have HL:Hid (∀w,Calls Tryz.prog 46 #[] w fun e w'=>e=.returned (.agg #[.int .i64 0,.int .i64 0,.int .i64 0,.string ⟨#[48]⟩,.string ⟨#[]⟩])/\w.grownBy w' none):=low_any
 clear CN
 go_enter Tryz.func125,Tryz.ntmps125
 go_wp2_with (first | (go_at_call 127;refine (HN.out _).mono ?_))
 rintro e w1 ⟨rfl,hg⟩
 obtain ⟨A,hA⟩:∃A,w.heap.size=A:=⟨_,rfl⟩
 have HV:Hid (PB A a b c P n w1):=by
  refine PB.grow (w:=(w.alloc (.cells #[.int .i64 a,.int .i64 b,.int .i64 c,.string P,.string ⟨#[]⟩,.int .i64 n] 145)).alloc (.cells #[.int .i64 0,.int .i64 0,.int .i64 0,.string ⟨#[]⟩,.string ⟨#[]⟩,.int .i64 0,.int .i64 0,.int .i64 0,.string ⟨#[]⟩,.string ⟨#[]⟩,.bool false] 37)) ?_ hg
  unfold PB
  rw [<-hA,Lib.alloc_old _ _ _ (by simp)];exact heap_alloc_new w _
 have HZ:Hid (SZ (A+1) w1):=by
  refine SZ.grow (w:=(w.alloc (.cells #[.int .i64 a,.int .i64 b,.int .i64 c,.string P,.string ⟨#[]⟩,.int .i64 n] 145)).alloc (.cells #[.int .i64 0,.int .i64 0,.int .i64 0,.string ⟨#[]⟩,.string ⟨#[]⟩,.int .i64 0,.int .i64 0,.int .i64 0,.string ⟨#[]⟩,.string ⟨#[]⟩,.bool false] 37)) ?_ hg
  unfold SZ
  rw [<-hA]
  exact row2' w _ _
 have HG:Hid (w.grownBy w1 none):=gb_trans (gb_alloc (gb_alloc (gb_refl w none) _) _) hg
 have HB:Hid (w.heap.size<=A/\A+1 < w1.heap.size):=⟨Nat.le_of_eq hA,(Array.getElem?_eq_some_iff.1 HZ.out).1⟩
 try rw [hA]
 clear hA hg
 obtain ⟨C,hC⟩:∃C,w1.heap.size=C:=⟨_,rfl⟩
 obtain ⟨W,hW⟩:∃W,w1.alloc (.cells #[.int .i64 x1,.int .i64 x2,.int .i64 x3,.string x4,.string x5,.int .i64 y1,.int .i64 y2,.int .i64 y3,.string y4,.string y5,.bool false] 37)=W:=⟨_,rfl⟩
 have hgW:w1.grownBy W none:=by rw [<-hW];exact gb_alloc (gb_refl w1 none) _
 have HVW:Hid (PB A a b c P n W):=HV.out.grow hgW
 have HZW:Hid (SZ (A+1) W):=HZ.out.grow hgW
 have HCW:Hid (W.heap[C]?=some (.cells #[.int .i64 x1,.int .i64 x2,.int .i64 x3,.string x4,.string x5,.int .i64 y1,.int .i64 y2,.int .i64 y3,.string y4,.string y5,.bool false] 37 (0,0))):=by show _=_;rw [<-hW,<-hC];exact heap_alloc_new w1 _
 have HGW:Hid (w.grownBy W none):=gb_trans HG.out hgW
 have HCA:Hid (w.heap.size<=A/\A+1 < C/\C < W.heap.size):=by refine ⟨HB.out.1,?_,(Array.getElem?_eq_some_iff.1 HCW.out).1⟩;rw [<-hC];exact HB.out.2
 clear hgW HV HZ HG HB
 have c0:W.cell? ⟨C,0,none⟩=some (.int .i64 x1):=by rw [Lib.cell_of_heap HCW.out];rfl
 have c1:W.cell? ⟨C,1,none⟩=some (.int .i64 x2):=by rw [Lib.cell_of_heap HCW.out];rfl
 have c2:W.cell? ⟨C,2,none⟩=some (.int .i64 x3):=by rw [Lib.cell_of_heap HCW.out];rfl
 have c3:W.cell? ⟨C,3,none⟩=some (.string x4):=by rw [Lib.cell_of_heap HCW.out];rfl
 have c4:W.cell? ⟨C,4,none⟩=some (.string x5):=by rw [Lib.cell_of_heap HCW.out];rfl
 have c5:W.cell? ⟨C,5,none⟩=some (.int .i64 y1):=by rw [Lib.cell_of_heap HCW.out];rfl
 have c6:W.cell? ⟨C,6,none⟩=some (.int .i64 y2):=by rw [Lib.cell_of_heap HCW.out];rfl
 have c7:W.cell? ⟨C,7,none⟩=some (.int .i64 y3):=by rw [Lib.cell_of_heap HCW.out];rfl
 have c8:W.cell? ⟨C,8,none⟩=some (.string y4):=by rw [Lib.cell_of_heap HCW.out];rfl
 have c9:W.cell? ⟨C,9,none⟩=some (.string y5):=by rw [Lib.cell_of_heap HCW.out];rfl
 have c10:W.cell? ⟨C,10,none⟩=some (.bool false):=by rw [Lib.cell_of_heap HCW.out];rfl
 have cf:∀o,W.frozen? ⟨C,o,none⟩=false:=fun o=>Lib.frozen_of_heap HCW.out o
 have z0:W.cell? ⟨A+1,0,none⟩=some (.int .i64 0):=by rw [Lib.cell_of_heap (show _=_ from HZW.out)];rfl
 have z1:W.cell? ⟨A+1,1,none⟩=some (.int .i64 0):=by rw [Lib.cell_of_heap (show _=_ from HZW.out)];rfl
 have z2:W.cell? ⟨A+1,2,none⟩=some (.int .i64 0):=by rw [Lib.cell_of_heap (show _=_ from HZW.out)];rfl
 have z3:W.cell? ⟨A+1,3,none⟩=some (.string ⟨#[]⟩):=by rw [Lib.cell_of_heap (show _=_ from HZW.out)];rfl
 have z4:W.cell? ⟨A+1,4,none⟩=some (.string ⟨#[]⟩):=by rw [Lib.cell_of_heap (show _=_ from HZW.out)];rfl
 have z5:W.cell? ⟨A+1,5,none⟩=some (.int .i64 0):=by rw [Lib.cell_of_heap (show _=_ from HZW.out)];rfl
 have z6:W.cell? ⟨A+1,6,none⟩=some (.int .i64 0):=by rw [Lib.cell_of_heap (show _=_ from HZW.out)];rfl
 have z7:W.cell? ⟨A+1,7,none⟩=some (.int .i64 0):=by rw [Lib.cell_of_heap (show _=_ from HZW.out)];rfl
 have z8:W.cell? ⟨A+1,8,none⟩=some (.string ⟨#[]⟩):=by rw [Lib.cell_of_heap (show _=_ from HZW.out)];rfl
 have z9:W.cell? ⟨A+1,9,none⟩=some (.string ⟨#[]⟩):=by rw [Lib.cell_of_heap (show _=_ from HZW.out)];rfl
 have z10:W.cell? ⟨A+1,10,none⟩=some (.bool false):=by rw [Lib.cell_of_heap (show _=_ from HZW.out)];rfl
 have zf:∀o,W.frozen? ⟨A+1,o,none⟩=false:=fun o=>HZW.out.f o
 have hcc:=HCA.out
 have n1:¬ (A+1=C):=by omega
 have n2:¬ (C=A+1):=by omega
 have n3:¬ (A=C):=by omega
 have n4:¬ (C=A):=by omega
 clear hcc
 go_wp2
 have hrw:=HZW.out
 unfold SZ at hrw
 have hb:=HCA.out
 refine bodyPost_ret (results_cell_row rfl _ _ (A+1) 37 #[.int .i64 y1,.int .i64 y2,.int .i64 y3,.string y4,.string y5,.int .i64 0,.int .i64 0,.int .i64 0,.string ⟨#[]⟩,.string ⟨#[]⟩,.bool true] (0,0) _ rfl ?_ Tryz.underlying37 rfl (by kernel_rfl)) rfl ⟨rfl,by repeat (first | refine gb_setC ?_ (by omega) | exact HGW.out)⟩
 simp [World.setCell,Array.getElem?_modify,hrw,n2]
set_option maxRecDepth 100000 in
set_option maxHeartbeats 800000 in
theorem between_any (a' b' c' n':Int) (P':ByteArray) (a b c n x1 x2 x3 y1 y2 y3:Int) (P x4 x5 y4 y5:ByteArray) (o:Bool) (w:World) (CN:∀w,Calls Tryz.prog 127 #[.agg #[.int .i64 a,.int .i64 b,.int .i64 c,.string P,.string ⟨#[]⟩,.int .i64 n]] w fun e w'=>e=.returned (.agg #[.int .i64 x1,.int .i64 x2,.int .i64 x3,.string x4,.string x5,.int .i64 y1,.int .i64 y2,.int .i64 y3,.string y4,.string y5,.bool o])/\w.grownBy w' none) :
  Calls Tryz.prog 109 #[.agg #[.int .i64 a',.int .i64 b',.int .i64 c',.string P',.string ⟨#[]⟩,.int .i64 n'],.agg #[.int .i64 a,.int .i64 b,.int .i64 c,.string P,.string ⟨#[]⟩,.int .i64 n]] w fun e w'=>e=.returned (.agg #[.int .i64 a',.int .i64 b',.int .i64 c',.string P',.string ⟨#[]⟩,.int .i64 y1,.int .i64 y2,.int .i64 y3,.string y4,.string y5,.bool o])/\w.grownBy w' none:=by
 have HN:Hid (∀w,Calls Tryz.prog 127 #[.agg #[.int .i64 a,.int .i64 b,.int .i64 c,.string P,.string ⟨#[]⟩,.int .i64 n]] w fun e w'=>e=.returned (.agg #[.int .i64 x1,.int .i64 x2,.int .i64 x3,.string x4,.string x5,.int .i64 y1,.int .i64 y2,.int .i64 y3,.string y4,.string y5,.bool o])/\w.grownBy w' none):=CN
 clear CN
 go_enter Tryz.func109,Tryz.ntmps109
 go_wp2_with (first | (go_at_call 127;refine (HN.out _).mono ?_))
 rintro e w1 ⟨rfl,hg⟩
 obtain ⟨A,hA⟩:∃A,w.heap.size=A:=⟨_,rfl⟩
 have HV:Hid (PB A a' b' c' P' n' w1):=by
  refine PB.grow ?_ hg
  unfold PB
  rw [<-hA,Lib.alloc_old _ _ _ (by simp;omega),Lib.alloc_old _ _ _ (by simp)];exact heap_alloc_new w _
 have HZ:Hid (SZ (A+2) w1):=by
  refine SZ.grow ?_ hg
  unfold SZ
  rw [<-hA]
  exact row3' w _ _ _
 have HG:Hid (w.grownBy w1 none):=gb_trans (gb_alloc (gb_alloc (gb_alloc (gb_refl w none) _) _) _) hg
 have HB:Hid (w.heap.size<=A/\A+2 < w1.heap.size):=⟨Nat.le_of_eq hA,(Array.getElem?_eq_some_iff.1 HZ.out).1⟩
 try rw [hA]
 clear hA hg
 obtain ⟨C,hC⟩:∃C,w1.heap.size=C:=⟨_,rfl⟩
 obtain ⟨W,hW⟩:∃W,w1.alloc (.cells #[.int .i64 x1,.int .i64 x2,.int .i64 x3,.string x4,.string x5,.int .i64 y1,.int .i64 y2,.int .i64 y3,.string y4,.string y5,.bool o] 37)=W:=⟨_,rfl⟩
 have hgW:w1.grownBy W none:=by rw [<-hW];exact gb_alloc (gb_refl w1 none) _
 have HVW:Hid (PB A a' b' c' P' n' W):=HV.out.grow hgW
 have HZW:Hid (SZ (A+2) W):=HZ.out.grow hgW
 have HCW:Hid (W.heap[C]?=some (.cells #[.int .i64 x1,.int .i64 x2,.int .i64 x3,.string x4,.string x5,.int .i64 y1,.int .i64 y2,.int .i64 y3,.string y4,.string y5,.bool o] 37 (0,0))):=by show _=_;rw [<-hW,<-hC];exact heap_alloc_new w1 _
 have HGW:Hid (w.grownBy W none):=gb_trans HG.out hgW
 have HCA:Hid (w.heap.size<=A/\A+2 < C/\C < W.heap.size):=by refine ⟨HB.out.1,?_,(Array.getElem?_eq_some_iff.1 HCW.out).1⟩;rw [<-hC];exact HB.out.2
 clear hgW HV HZ HG HB
 have c0:W.cell? ⟨C,0,none⟩=some (.int .i64 x1):=by rw [Lib.cell_of_heap HCW.out];rfl
 have c1:W.cell? ⟨C,1,none⟩=some (.int .i64 x2):=by rw [Lib.cell_of_heap HCW.out];rfl
 have c2:W.cell? ⟨C,2,none⟩=some (.int .i64 x3):=by rw [Lib.cell_of_heap HCW.out];rfl
 have c3:W.cell? ⟨C,3,none⟩=some (.string x4):=by rw [Lib.cell_of_heap HCW.out];rfl
 have c4:W.cell? ⟨C,4,none⟩=some (.string x5):=by rw [Lib.cell_of_heap HCW.out];rfl
 have c5:W.cell? ⟨C,5,none⟩=some (.int .i64 y1):=by rw [Lib.cell_of_heap HCW.out];rfl
 have c6:W.cell? ⟨C,6,none⟩=some (.int .i64 y2):=by rw [Lib.cell_of_heap HCW.out];rfl
 have c7:W.cell? ⟨C,7,none⟩=some (.int .i64 y3):=by rw [Lib.cell_of_heap HCW.out];rfl
 have c8:W.cell? ⟨C,8,none⟩=some (.string y4):=by rw [Lib.cell_of_heap HCW.out];rfl
 have c9:W.cell? ⟨C,9,none⟩=some (.string y5):=by rw [Lib.cell_of_heap HCW.out];rfl
 have c10:W.cell? ⟨C,10,none⟩=some (.bool o):=by rw [Lib.cell_of_heap HCW.out];rfl
 have cf:∀o,W.frozen? ⟨C,o,none⟩=false:=fun o=>Lib.frozen_of_heap HCW.out o
 have z0:W.cell? ⟨A+2,0,none⟩=some (.int .i64 0):=by rw [Lib.cell_of_heap (show _=_ from HZW.out)];rfl
 have z1:W.cell? ⟨A+2,1,none⟩=some (.int .i64 0):=by rw [Lib.cell_of_heap (show _=_ from HZW.out)];rfl
 have z2:W.cell? ⟨A+2,2,none⟩=some (.int .i64 0):=by rw [Lib.cell_of_heap (show _=_ from HZW.out)];rfl
 have z3:W.cell? ⟨A+2,3,none⟩=some (.string ⟨#[]⟩):=by rw [Lib.cell_of_heap (show _=_ from HZW.out)];rfl
 have z4:W.cell? ⟨A+2,4,none⟩=some (.string ⟨#[]⟩):=by rw [Lib.cell_of_heap (show _=_ from HZW.out)];rfl
 have z5:W.cell? ⟨A+2,5,none⟩=some (.int .i64 0):=by rw [Lib.cell_of_heap (show _=_ from HZW.out)];rfl
 have z6:W.cell? ⟨A+2,6,none⟩=some (.int .i64 0):=by rw [Lib.cell_of_heap (show _=_ from HZW.out)];rfl
 have z7:W.cell? ⟨A+2,7,none⟩=some (.int .i64 0):=by rw [Lib.cell_of_heap (show _=_ from HZW.out)];rfl
 have z8:W.cell? ⟨A+2,8,none⟩=some (.string ⟨#[]⟩):=by rw [Lib.cell_of_heap (show _=_ from HZW.out)];rfl
 have z9:W.cell? ⟨A+2,9,none⟩=some (.string ⟨#[]⟩):=by rw [Lib.cell_of_heap (show _=_ from HZW.out)];rfl
 have z10:W.cell? ⟨A+2,10,none⟩=some (.bool false):=by rw [Lib.cell_of_heap (show _=_ from HZW.out)];rfl
 have zf:∀o,W.frozen? ⟨A+2,o,none⟩=false:=fun o=>HZW.out.f o
 obtain ⟨e0,e1,e2,e3,e4,e5⟩:=HVW.out.cells
 have hcc:=HCA.out
 have n1:¬ (A+2=C):=by omega
 have n2:¬ (C=A+2):=by omega
 have n3:¬ (A=C):=by omega
 have n4:¬ (C=A):=by omega
 clear hcc
 go_wp2
 have hrw:=HZW.out
 unfold SZ at hrw
 have hb:=HCA.out
 refine bodyPost_ret (results_cell_row rfl _ _ (A+2) 37 #[.int .i64 a',.int .i64 b',.int .i64 c',.string P',.string ⟨#[]⟩,.int .i64 y1,.int .i64 y2,.int .i64 y3,.string y4,.string y5,.bool o] (0,0) _ rfl ?_ Tryz.underlying37 rfl (by kernel_rfl)) rfl ⟨rfl,by repeat (first | refine gb_setC ?_ (by omega) | exact HGW.out)⟩
 simp [World.setCell,Array.getElem?_modify,hrw,n2]
end Go.Proofs.YtonfldbigenfhaaGreatDoor
