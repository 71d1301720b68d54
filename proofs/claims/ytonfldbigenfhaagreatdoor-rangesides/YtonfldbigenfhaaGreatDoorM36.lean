import Derived.Test.YtonfldbigenfhaaGreatDoorM26
import Derived.Deep.RegionHeld3
namespace Go.Proofs.YtonfldbigenfhaaGreatDoor
open Go.RowKit
set_option linter.unusedVariables false
theorem keep11 {p0 p1 p2 p3 p4 p5 p6 p7 p8 p9 p10:Addr} {c0 c1 c2 c3 c4 c5 c6 c7 c8 c9 c10:Value} {w w':World} (hg:w.grownBy w' none) (h:w.cell? p0=some c0/\w.cell? p1=some c1/\w.cell? p2=some c2/\w.cell? p3=some c3/\w.cell? p4=some c4/\w.cell? p5=some c5/\w.cell? p6=some c6/\w.cell? p7=some c7/\w.cell? p8=some c8/\w.cell? p9=some c9/\w.cell? p10=some c10):w'.cell? p0=some c0/\w'.cell? p1=some c1/\w'.cell? p2=some c2/\w'.cell? p3=some c3/\w'.cell? p4=some c4/\w'.cell? p5=some c5/\w'.cell? p6=some c6/\w'.cell? p7=some c7/\w'.cell? p8=some c8/\w'.cell? p9=some c9/\w'.cell? p10=some c10:=by
 obtain ⟨h0,h1,h2,h3,h4,h5,h6,h7,h8,h9,h10⟩:=h
 exact ⟨hg.cell h0 (by simp),hg.cell h1 (by simp),hg.cell h2 (by simp),hg.cell h3 (by simp),hg.cell h4 (by simp),hg.cell h5 (by simp),hg.cell h6 (by simp),hg.cell h7 (by simp),hg.cell h8 (by simp),hg.cell h9 (by simp),hg.cell h10 (by simp)⟩
def TR (A:Nat) (sg n a b c:Int) (P Q:ByteArray) (w:World):Prop:=w.heap[A]?=some (.cells #[.int .i64 sg,.int .i64 n,.int .i64 a,.int .i64 b,.int .i64 c,.string P,.string Q] 84 (0,0))
theorem TR.cells {A:Nat} {sg n a b c:Int} {P Q:ByteArray} {w:World} (h:TR A sg n a b c P Q w):w.cell? ⟨A,0,none⟩=some (.int .i64 sg)/\w.cell? ⟨A,1,none⟩=some (.int .i64 n)/\w.cell? ⟨A,2,none⟩=some (.int .i64 a)/\w.cell? ⟨A,3,none⟩=some (.int .i64 b)/\w.cell? ⟨A,4,none⟩=some (.int .i64 c)/\w.cell? ⟨A,5,none⟩=some (.string P)/\w.cell? ⟨A,6,none⟩=some (.string Q) :=
 ⟨by rw [Lib.cell_of_heap h];rfl,by rw [Lib.cell_of_heap h];rfl,by rw [Lib.cell_of_heap h];rfl,by rw [Lib.cell_of_heap h];rfl,by rw [Lib.cell_of_heap h];rfl,by rw [Lib.cell_of_heap h];rfl,by rw [Lib.cell_of_heap h];rfl⟩
theorem TR.grow {A:Nat} {sg n a b c:Int} {P Q:ByteArray} {w w':World} (h:TR A sg n a b c P Q w) (hg:w.grownBy w' none):TR A sg n a b c P Q w':=by
 unfold TR at h ⊢
 rw [hg.block A ((Array.getElem?_eq_some_iff.1 h).1) (by simp)];exact h
theorem cell_drew2 (w:World) (p:Addr):w.drew.cell? p=w.cell? p:=rfl
theorem row2h (w:World) (o1 o2:Obj):((w.alloc o1).alloc o2).heap[w.heap.size+1]?=some o2:=by
 have:=heap_alloc_new (w.alloc o1) o2
 simpa using this
set_option maxRecDepth 100000 in
set_option maxHeartbeats 3200000 in
theorem adm0_any (sg:Int) (hs:0<=sg/\sg<=7) (a b c v1 v2 v3:Int) (P Q v4 v5:ByteArray) (w:World) (hp:P.size<=1048576) (hv:v4.size<=1048576) :
  Calls Tryz.prog 43 #[.agg #[.int .i64 sg,.int .i64 0,.int .i64 a,.int .i64 b,.int .i64 c,.string P,.string Q],.agg #[.int .i64 v1,.int .i64 v2,.int .i64 v3,.string v4,.string v5]] w fun e w'=>e=.returned (.bool (admB ⟨sg,⟨0,a,b,c,P.data.toList⟩⟩ ⟨v1,v2,v3,v4.data.toList⟩))/\w.grownBy w' none:=by
 obtain ⟨N,hN⟩:∃N,namedB ⟨0,a,b,c,P.data.toList⟩ ⟨v1,v2,v3,v4.data.toList⟩=N:=⟨_,rfl⟩
 obtain ⟨C,hC⟩:∃C,placeB ⟨0,a,b,c,P.data.toList⟩ ⟨v1,v2,v3,v4.data.toList⟩=C:=⟨_,rfl⟩
 obtain ⟨L,hL⟩:∃L,leadsB ⟨0,a,b,c,P.data.toList⟩ ⟨v1,v2,v3,v4.data.toList⟩=L:=⟨_,rfl⟩
 obtain ⟨x,hx⟩:∃x,verC (firstV ⟨0,a,b,c,P.data.toList⟩) ⟨v1,v2,v3,v4.data.toList⟩=x:=⟨_,rfl⟩
 have CN:Hid (∀w,Calls Tryz.prog 72 #[.agg #[.int .i64 0,.int .i64 a,.int .i64 b,.int .i64 c,.string P,.string Q],.agg #[.int .i64 v1,.int .i64 v2,.int .i64 v3,.string v4,.string v5]] w fun e w'=>e=.returned (.bool N)/\w.grownBy w' none):=fun w=>by rw [<-hN];exact rnamed0_any a b c v1 v2 v3 P Q v4 v5 w
 have CP:Hid (∀w,Calls Tryz.prog 71 #[.agg #[.int .i64 0,.int .i64 a,.int .i64 b,.int .i64 c,.string P,.string Q],.agg #[.int .i64 v1,.int .i64 v2,.int .i64 v3,.string v4,.string v5]] w fun e w'=>e=.returned (.int .i64 C)/\w.grownBy w' none):=fun w=>by rw [<-hC];exact rplace0_any a b c v1 v2 v3 P Q v4 v5 w hp hv
 have CL:Hid (∀w,Calls Tryz.prog 73 #[.agg #[.int .i64 0,.int .i64 a,.int .i64 b,.int .i64 c,.string P,.string Q],.agg #[.int .i64 v1,.int .i64 v2,.int .i64 v3,.string v4,.string v5]] w fun e w'=>e=.returned (.bool L)/\w.grownBy w' none):=fun w=>by rw [<-hL];exact rleads0_any a b c v1 v2 v3 P Q v4 v5 w
 have CF:Hid (∀w,Calls Tryz.prog 65 #[.agg #[.int .i64 0,.int .i64 a,.int .i64 b,.int .i64 c,.string P,.string Q]] w fun e w'=>e=.returned (.agg #[.int .i64 a,.int .i64 b,.int .i64 c,.string ⟨#[48]⟩,.string ⟨#[]⟩])/\w.grownBy w' none):=fun w=>rfirst0_any a b c P Q w
 have CC:Hid (∀w,Calls Tryz.prog 64 #[.agg #[.int .i64 a,.int .i64 b,.int .i64 c,.string ⟨#[48]⟩,.string ⟨#[]⟩],.agg #[.int .i64 v1,.int .i64 v2,.int .i64 v3,.string v4,.string v5]] w fun e w'=>e=.returned (.int .i64 x)/\w.grownBy w' none):=fun w=>by
  rw [<-hx]
  refine (rcompare_any a b c v1 v2 v3 ⟨#[48]⟩ ⟨#[]⟩ v4 v5 w (by show 1<=_;omega) hv).mono ?_
  rintro e w' ⟨rfl,h⟩
  exact ⟨rfl,below_gb' h⟩
 obtain ⟨F,hF⟩:∃F,fromB ⟨0,a,b,c,P.data.toList⟩ ⟨v1,v2,v3,v4.data.toList⟩=F:=⟨_,rfl⟩
 have HFx:Hid (F=true):=by show F=_;rw [<-hF];rfl
 obtain ⟨R,hR⟩:∃R,admB ⟨sg,⟨0,a,b,c,P.data.toList⟩⟩ ⟨v1,v2,v3,v4.data.toList⟩=R:=⟨_,rfl⟩
 have HR:Hid (R=if sg=0 then N else if sg=1 then decide (0<=C) else if sg=2 then decide (C<=0) else if sg=3 then decide (0 < C) else if sg=4 then decide (C < 0) else if sg=5 then F && L else if sg=6 then (F && (decide (0 < 1) || decide (v1=a))) && (decide (0 < 2) || decide (v2=b)) else F):=by
  show R=_
  rw [<-hR];unfold admB;rw [hN,hC,hL,hF]
 rw [hR]
 have HSG:Hid (0<=sg/\sg<=7):=hs
 clear hN hC hL hx hF hR hp hv hs
 go_enter Tryz.func43,Tryz.ntmps43
 go_wp2_with (first | (go_at_call 71;refine (CP.out _).mono ?_))
 rintro e w1 ⟨rfl,hg⟩
 obtain ⟨A,hA⟩:∃A,w.heap.size=A:=⟨_,rfl⟩
 have HT:Hid (TR A sg 0 a b c P Q w1):=by
  refine TR.grow (w:=(w.alloc (.cells #[.int .i64 sg,.int .i64 0,.int .i64 a,.int .i64 b,.int .i64 c,.string P,.string Q] 84)).alloc (.cells #[.int .i64 v1,.int .i64 v2,.int .i64 v3,.string v4,.string v5] 39)) ?_ hg
  unfold TR
  rw [<-hA,Lib.alloc_old _ _ _ (by simp)];exact heap_alloc_new w _
 have HV:Hid (St (A+1) v1 v2 v3 v4 v5 w1):=by
  refine St.grow ?_ hg
  refine st_row (t:=39) ?_
  rw [<-hA];exact row2h w _ _
 have HG:Hid (w.grownBy w1 none):=gb_trans (gb_alloc (gb_alloc (gb_refl w none) _) _) hg
 try rw [hA]
 clear hA hg
 obtain ⟨t0,t1,t2,t3,t4,t5,t6⟩:=HT.out.cells
 obtain ⟨s1,s2,s3,s4,s5⟩:=HV.out
 go_wp2_with (first | (go_at_call 72;refine (CN.out _).mono ?_))
 rintro e w2 ⟨rfl,hg⟩
 replace HT:Hid (TR A sg 0 a b c P Q w2):=HT.out.grow hg
 replace HV:Hid (St (A+1) v1 v2 v3 v4 v5 w2):=HV.out.grow hg
 replace HG:Hid (w.grownBy w2 none):=gb_trans HG.out hg
 clear hg t0 t1 t2 t3 t4 t5 t6 s1 s2 s3 s4 s5
 obtain ⟨t0,t1,t2,t3,t4,t5,t6⟩:=HT.out.cells
 obtain ⟨s1,s2,s3,s4,s5⟩:=HV.out
 go_wp2_with (fail)
 go_quiet (fail)
 obtain ⟨U,hU⟩:∃U,w2.drewN nq=U:=⟨_,rfl⟩
 replace HT:Hid (TR A sg 0 a b c P Q U):=by show TR _ _ _ _ _ _ _ _ U;rw [<-hU];exact HT.out
 replace HV:Hid (St (A+1) v1 v2 v3 v4 v5 U):=by show St _ _ _ _ _ _ U;rw [<-hU];exact HV.out
 replace HG:Hid (w.grownBy U none):=by show w.grownBy U none;rw [<-hU];exact gb_drew HG.out _
 try rw [hU]
 clear hU t0 t1 t2 t3 t4 t5 t6 s1 s2 s3 s4 s5
 have hFv:=HFx.out
 subst hFv
 have hss:sg=0\/sg=1\/sg=2\/sg=3\/sg=4\/sg=5\/sg=6\/sg=7:=by have:=HSG.out;omega
 clear HSG
 obtain ⟨t0,t1,t2,t3,t4,t5,t6⟩:=HT.out.cells
 obtain ⟨s1,s2,s3,s4,s5⟩:=HV.out
 rcases hss with rfl | rfl | rfl | rfl | rfl | rfl | rfl | rfl
 ·go_wp2
  all_goals go_ret
  all_goals (refine ⟨ret_bool ?_,HG.out⟩;have hr:=HR.out;clear HR;simp_all <;> rfl)
 ·go_wp2
  all_goals go_ret
  all_goals (refine ⟨ret_bool ?_,HG.out⟩;have hr:=HR.out;clear HR;simp_all <;> rfl)
 ·go_wp2
  all_goals go_ret
  all_goals (refine ⟨ret_bool ?_,HG.out⟩;have hr:=HR.out;clear HR;simp_all <;> rfl)
 ·go_wp2
  all_goals go_ret
  all_goals (refine ⟨ret_bool ?_,HG.out⟩;have hr:=HR.out;clear HR;simp_all <;> rfl)
 ·go_wp2
  all_goals go_ret
  all_goals (refine ⟨ret_bool ?_,HG.out⟩;have hr:=HR.out;clear HR;simp_all <;> rfl)
 ·go_wp2_with (first | (go_at_call 73;refine (CL.out _).mono ?_))
  rintro e w5 rfl hg5
  replace HG:Hid (w.grownBy w5 none):=gb_trans HG.out hg5
  clear hg5
  go_wp2
  all_goals go_ret
  all_goals (refine ⟨ret_bool ?_,HG.out⟩;have hr:=HR.out;clear HR;simp_all <;> rfl)
 ·go_wp2
  all_goals go_ret
  all_goals (refine ⟨ret_bool ?_,HG.out⟩;have hr:=HR.out;clear HR;simp_all <;> rfl)
 ·go_wp2
  all_goals go_ret
  all_goals (refine ⟨ret_bool ?_,HG.out⟩;have hr:=HR.out;clear HR;simp_all <;> rfl)
set_option maxRecDepth 100000 in
set_option maxHeartbeats 3200000 in
theorem adm1_any (sg:Int) (hs:0<=sg/\sg<=7) (a b c v1 v2 v3:Int) (P Q v4 v5:ByteArray) (w:World) (hp:P.size<=1048576) (hv:v4.size<=1048576) :
  Calls Tryz.prog 43 #[.agg #[.int .i64 sg,.int .i64 1,.int .i64 a,.int .i64 b,.int .i64 c,.string P,.string Q],.agg #[.int .i64 v1,.int .i64 v2,.int .i64 v3,.string v4,.string v5]] w fun e w'=>e=.returned (.bool (admB ⟨sg,⟨1,a,b,c,P.data.toList⟩⟩ ⟨v1,v2,v3,v4.data.toList⟩))/\w.grownBy w' none:=by
 obtain ⟨N,hN⟩:∃N,namedB ⟨1,a,b,c,P.data.toList⟩ ⟨v1,v2,v3,v4.data.toList⟩=N:=⟨_,rfl⟩
 obtain ⟨C,hC⟩:∃C,placeB ⟨1,a,b,c,P.data.toList⟩ ⟨v1,v2,v3,v4.data.toList⟩=C:=⟨_,rfl⟩
 obtain ⟨L,hL⟩:∃L,leadsB ⟨1,a,b,c,P.data.toList⟩ ⟨v1,v2,v3,v4.data.toList⟩=L:=⟨_,rfl⟩
 obtain ⟨x,hx⟩:∃x,verC (firstV ⟨1,a,b,c,P.data.toList⟩) ⟨v1,v2,v3,v4.data.toList⟩=x:=⟨_,rfl⟩
 have CN:Hid (∀w,Calls Tryz.prog 72 #[.agg #[.int .i64 1,.int .i64 a,.int .i64 b,.int .i64 c,.string P,.string Q],.agg #[.int .i64 v1,.int .i64 v2,.int .i64 v3,.string v4,.string v5]] w fun e w'=>e=.returned (.bool N)/\w.grownBy w' none):=fun w=>by rw [<-hN];exact rnamed1_any a b c v1 v2 v3 P Q v4 v5 w
 have CP:Hid (∀w,Calls Tryz.prog 71 #[.agg #[.int .i64 1,.int .i64 a,.int .i64 b,.int .i64 c,.string P,.string Q],.agg #[.int .i64 v1,.int .i64 v2,.int .i64 v3,.string v4,.string v5]] w fun e w'=>e=.returned (.int .i64 C)/\w.grownBy w' none):=fun w=>by rw [<-hC];exact rplace1_any a b c v1 v2 v3 P Q v4 v5 w hp hv
 have CL:Hid (∀w,Calls Tryz.prog 73 #[.agg #[.int .i64 1,.int .i64 a,.int .i64 b,.int .i64 c,.string P,.string Q],.agg #[.int .i64 v1,.int .i64 v2,.int .i64 v3,.string v4,.string v5]] w fun e w'=>e=.returned (.bool L)/\w.grownBy w' none):=fun w=>by rw [<-hL];exact rleads1_any a b c v1 v2 v3 P Q v4 v5 w
 have CF:Hid (∀w,Calls Tryz.prog 65 #[.agg #[.int .i64 1,.int .i64 a,.int .i64 b,.int .i64 c,.string P,.string Q]] w fun e w'=>e=.returned (.agg #[.int .i64 a,.int .i64 b,.int .i64 c,.string ⟨#[48]⟩,.string ⟨#[]⟩])/\w.grownBy w' none):=fun w=>rfirst1_any a b c P Q w
 have CC:Hid (∀w,Calls Tryz.prog 64 #[.agg #[.int .i64 a,.int .i64 b,.int .i64 c,.string ⟨#[48]⟩,.string ⟨#[]⟩],.agg #[.int .i64 v1,.int .i64 v2,.int .i64 v3,.string v4,.string v5]] w fun e w'=>e=.returned (.int .i64 x)/\w.grownBy w' none):=fun w=>by
  rw [<-hx]
  refine (rcompare_any a b c v1 v2 v3 ⟨#[48]⟩ ⟨#[]⟩ v4 v5 w (by show 1<=_;omega) hv).mono ?_
  rintro e w' ⟨rfl,h⟩
  exact ⟨rfl,below_gb' h⟩
 obtain ⟨F,hF⟩:∃F,fromB ⟨1,a,b,c,P.data.toList⟩ ⟨v1,v2,v3,v4.data.toList⟩=F:=⟨_,rfl⟩
 have HFx:Hid (F=decide (x<=0)):=by show F=_;rw [<-hF,<-hx];rfl
 obtain ⟨R,hR⟩:∃R,admB ⟨sg,⟨1,a,b,c,P.data.toList⟩⟩ ⟨v1,v2,v3,v4.data.toList⟩=R:=⟨_,rfl⟩
 have HR:Hid (R=if sg=0 then N else if sg=1 then decide (0<=C) else if sg=2 then decide (C<=0) else if sg=3 then decide (0 < C) else if sg=4 then decide (C < 0) else if sg=5 then F && L else if sg=6 then (F && (decide (1 < 1) || decide (v1=a))) && (decide (1 < 2) || decide (v2=b)) else F):=by
  show R=_
  rw [<-hR];unfold admB;rw [hN,hC,hL,hF]
 rw [hR]
 have HSG:Hid (0<=sg/\sg<=7):=hs
 clear hN hC hL hx hF hR hp hv hs
 go_enter Tryz.func43,Tryz.ntmps43
 go_wp2_with (first | (go_at_call 71;refine (CP.out _).mono ?_))
 rintro e w1 ⟨rfl,hg⟩
 obtain ⟨A,hA⟩:∃A,w.heap.size=A:=⟨_,rfl⟩
 have HT:Hid (TR A sg 1 a b c P Q w1):=by
  refine TR.grow (w:=(w.alloc (.cells #[.int .i64 sg,.int .i64 1,.int .i64 a,.int .i64 b,.int .i64 c,.string P,.string Q] 84)).alloc (.cells #[.int .i64 v1,.int .i64 v2,.int .i64 v3,.string v4,.string v5] 39)) ?_ hg
  unfold TR
  rw [<-hA,Lib.alloc_old _ _ _ (by simp)];exact heap_alloc_new w _
 have HV:Hid (St (A+1) v1 v2 v3 v4 v5 w1):=by
  refine St.grow ?_ hg
  refine st_row (t:=39) ?_
  rw [<-hA];exact row2h w _ _
 have HG:Hid (w.grownBy w1 none):=gb_trans (gb_alloc (gb_alloc (gb_refl w none) _) _) hg
 try rw [hA]
 clear hA hg
 obtain ⟨t0,t1,t2,t3,t4,t5,t6⟩:=HT.out.cells
 obtain ⟨s1,s2,s3,s4,s5⟩:=HV.out
 go_wp2_with (first | (go_at_call 72;refine (CN.out _).mono ?_))
 rintro e w2 ⟨rfl,hg⟩
 replace HT:Hid (TR A sg 1 a b c P Q w2):=HT.out.grow hg
 replace HV:Hid (St (A+1) v1 v2 v3 v4 v5 w2):=HV.out.grow hg
 replace HG:Hid (w.grownBy w2 none):=gb_trans HG.out hg
 clear hg t0 t1 t2 t3 t4 t5 t6 s1 s2 s3 s4 s5
 obtain ⟨t0,t1,t2,t3,t4,t5,t6⟩:=HT.out.cells
 obtain ⟨s1,s2,s3,s4,s5⟩:=HV.out
 obtain ⟨fb,hfb⟩:∃fb,decide (x<=0)=fb:=⟨_,rfl⟩
 have HFB:Hid (decide (x<=0)=fb):=hfb
 clear hfb
 go_wp2_with (fail)
 go_region_held3 (fun w'=>w'.cell? ⟨A,1,none⟩=some (.int .i64 1)/\w'.cell? ⟨A,2,none⟩=some (.int .i64 a)/\w'.cell? ⟨A,3,none⟩=some (.int .i64 b)/\w'.cell? ⟨A,4,none⟩=some (.int .i64 c)/\w'.cell? ⟨A,5,none⟩=some (.string P)/\w'.cell? ⟨A,6,none⟩=some (.string Q)/\w'.cell? ⟨A+1,0,none⟩=some (.int .i64 v1)/\w'.cell? ⟨A+1,1,none⟩=some (.int .i64 v2)/\w'.cell? ⟨A+1,2,none⟩=some (.int .i64 v3)/\w'.cell? ⟨A+1,3,none⟩=some (.string v4)/\w'.cell? ⟨A+1,4,none⟩=some (.string v5)) (first | (simp only [cell_drew2];exact ⟨t1,t2,t3,t4,t5,t6,s1,s2,s3,s4,s5⟩) | exact keep11 (by assumption) (by assumption)) (first | (go_at_call 65;refine (CF.out _).mono ?_;rintro e w3 ⟨rfl,hg3⟩) | (go_at_call 64;refine (CC.out _).mono ?_;rintro e w4 ⟨rfl,hg4⟩))
 have hg5:=gb_trans (gb_undrew hg3) hg4
 replace HT:Hid (TR A sg 1 a b c P Q w4):=HT.out.grow hg5
 replace HV:Hid (St (A+1) v1 v2 v3 v4 v5 w4):=HV.out.grow hg5
 replace HG:Hid (w.grownBy w4 none):=gb_trans HG.out hg5
 clear hg3 hg4 hg5 t0 t1 t2 t3 t4 t5 t6 s1 s2 s3 s4 s5 HFB
 have hFv:=HFx.out
 subst hFv
 cases hxb:decide (x<=0) with
 | true =>
  rw [hxb] at HR
  clear hxb HFx
  have hss:sg=0\/sg=1\/sg=2\/sg=3\/sg=4\/sg=5\/sg=6\/sg=7:=by have:=HSG.out;omega
  clear HSG
  obtain ⟨t0,t1,t2,t3,t4,t5,t6⟩:=HT.out.cells
  obtain ⟨s1,s2,s3,s4,s5⟩:=HV.out
  rcases hss with rfl | rfl | rfl | rfl | rfl | rfl | rfl | rfl
  ·go_wp2
   all_goals go_ret
   all_goals (refine ⟨ret_bool ?_,HG.out⟩;have hr:=HR.out;clear HR;simp_all <;> rfl)
  ·go_wp2
   all_goals go_ret
   all_goals (refine ⟨ret_bool ?_,HG.out⟩;have hr:=HR.out;clear HR;simp_all <;> rfl)
  ·go_wp2
   all_goals go_ret
   all_goals (refine ⟨ret_bool ?_,HG.out⟩;have hr:=HR.out;clear HR;simp_all <;> rfl)
  ·go_wp2
   all_goals go_ret
   all_goals (refine ⟨ret_bool ?_,HG.out⟩;have hr:=HR.out;clear HR;simp_all <;> rfl)
  ·go_wp2
   all_goals go_ret
   all_goals (refine ⟨ret_bool ?_,HG.out⟩;have hr:=HR.out;clear HR;simp_all <;> rfl)
  ·go_wp2_with (first | (go_at_call 73;refine (CL.out _).mono ?_))
   rintro e w5 rfl hg5
   replace HG:Hid (w.grownBy w5 none):=gb_trans HG.out hg5
   clear hg5
   go_wp2
   all_goals go_ret
   all_goals (refine ⟨ret_bool ?_,HG.out⟩;have hr:=HR.out;clear HR;simp_all <;> rfl)
  ·go_wp2
   all_goals go_ret
   all_goals (refine ⟨ret_bool ?_,HG.out⟩;have hr:=HR.out;clear HR;simp_all <;> rfl)
  ·go_wp2
   all_goals go_ret
   all_goals (refine ⟨ret_bool ?_,HG.out⟩;have hr:=HR.out;clear HR;simp_all <;> rfl)
 | false =>
  rw [hxb] at HR
  clear hxb HFx
  have hss:sg=0\/sg=1\/sg=2\/sg=3\/sg=4\/sg=5\/sg=6\/sg=7:=by have:=HSG.out;omega
  clear HSG
  obtain ⟨t0,t1,t2,t3,t4,t5,t6⟩:=HT.out.cells
  obtain ⟨s1,s2,s3,s4,s5⟩:=HV.out
  rcases hss with rfl | rfl | rfl | rfl | rfl | rfl | rfl | rfl
  ·go_wp2
   all_goals go_ret
   all_goals (refine ⟨ret_bool ?_,HG.out⟩;have hr:=HR.out;clear HR;simp_all <;> rfl)
  ·go_wp2
   all_goals go_ret
   all_goals (refine ⟨ret_bool ?_,HG.out⟩;have hr:=HR.out;clear HR;simp_all <;> rfl)
  ·go_wp2
   all_goals go_ret
   all_goals (refine ⟨ret_bool ?_,HG.out⟩;have hr:=HR.out;clear HR;simp_all <;> rfl)
  ·go_wp2
   all_goals go_ret
   all_goals (refine ⟨ret_bool ?_,HG.out⟩;have hr:=HR.out;clear HR;simp_all <;> rfl)
  ·go_wp2
   all_goals go_ret
   all_goals (refine ⟨ret_bool ?_,HG.out⟩;have hr:=HR.out;clear HR;simp_all <;> rfl)
  ·go_wp2
   all_goals go_ret
   all_goals (refine ⟨ret_bool ?_,HG.out⟩;have hr:=HR.out;clear HR;simp_all <;> rfl)
  ·go_wp2
   all_goals go_ret
   all_goals (refine ⟨ret_bool ?_,HG.out⟩;have hr:=HR.out;clear HR;simp_all <;> rfl)
  ·go_wp2
   all_goals go_ret
   all_goals (refine ⟨ret_bool ?_,HG.out⟩;have hr:=HR.out;clear HR;simp_all <;> rfl)
set_option maxRecDepth 100000 in
set_option maxHeartbeats 3200000 in
theorem adm2_any (sg:Int) (hs:0<=sg/\sg<=7) (a b c v1 v2 v3:Int) (P Q v4 v5:ByteArray) (w:World) (hp:P.size<=1048576) (hv:v4.size<=1048576) :
  Calls Tryz.prog 43 #[.agg #[.int .i64 sg,.int .i64 2,.int .i64 a,.int .i64 b,.int .i64 c,.string P,.string Q],.agg #[.int .i64 v1,.int .i64 v2,.int .i64 v3,.string v4,.string v5]] w fun e w'=>e=.returned (.bool (admB ⟨sg,⟨2,a,b,c,P.data.toList⟩⟩ ⟨v1,v2,v3,v4.data.toList⟩))/\w.grownBy w' none:=by
 obtain ⟨N,hN⟩:∃N,namedB ⟨2,a,b,c,P.data.toList⟩ ⟨v1,v2,v3,v4.data.toList⟩=N:=⟨_,rfl⟩
 obtain ⟨C,hC⟩:∃C,placeB ⟨2,a,b,c,P.data.toList⟩ ⟨v1,v2,v3,v4.data.toList⟩=C:=⟨_,rfl⟩
 obtain ⟨L,hL⟩:∃L,leadsB ⟨2,a,b,c,P.data.toList⟩ ⟨v1,v2,v3,v4.data.toList⟩=L:=⟨_,rfl⟩
 obtain ⟨x,hx⟩:∃x,verC (firstV ⟨2,a,b,c,P.data.toList⟩) ⟨v1,v2,v3,v4.data.toList⟩=x:=⟨_,rfl⟩
 have CN:Hid (∀w,Calls Tryz.prog 72 #[.agg #[.int .i64 2,.int .i64 a,.int .i64 b,.int .i64 c,.string P,.string Q],.agg #[.int .i64 v1,.int .i64 v2,.int .i64 v3,.string v4,.string v5]] w fun e w'=>e=.returned (.bool N)/\w.grownBy w' none):=fun w=>by rw [<-hN];exact rnamed2_any a b c v1 v2 v3 P Q v4 v5 w
 have CP:Hid (∀w,Calls Tryz.prog 71 #[.agg #[.int .i64 2,.int .i64 a,.int .i64 b,.int .i64 c,.string P,.string Q],.agg #[.int .i64 v1,.int .i64 v2,.int .i64 v3,.string v4,.string v5]] w fun e w'=>e=.returned (.int .i64 C)/\w.grownBy w' none):=fun w=>by rw [<-hC];exact rplace2_any a b c v1 v2 v3 P Q v4 v5 w hp hv
 have CL:Hid (∀w,Calls Tryz.prog 73 #[.agg #[.int .i64 2,.int .i64 a,.int .i64 b,.int .i64 c,.string P,.string Q],.agg #[.int .i64 v1,.int .i64 v2,.int .i64 v3,.string v4,.string v5]] w fun e w'=>e=.returned (.bool L)/\w.grownBy w' none):=fun w=>by rw [<-hL];exact rleads2_any a b c v1 v2 v3 P Q v4 v5 w
 have CF:Hid (∀w,Calls Tryz.prog 65 #[.agg #[.int .i64 2,.int .i64 a,.int .i64 b,.int .i64 c,.string P,.string Q]] w fun e w'=>e=.returned (.agg #[.int .i64 a,.int .i64 b,.int .i64 c,.string ⟨#[48]⟩,.string ⟨#[]⟩])/\w.grownBy w' none):=fun w=>rfirst2_any a b c P Q w
 have CC:Hid (∀w,Calls Tryz.prog 64 #[.agg #[.int .i64 a,.int .i64 b,.int .i64 c,.string ⟨#[48]⟩,.string ⟨#[]⟩],.agg #[.int .i64 v1,.int .i64 v2,.int .i64 v3,.string v4,.string v5]] w fun e w'=>e=.returned (.int .i64 x)/\w.grownBy w' none):=fun w=>by
  rw [<-hx]
  refine (rcompare_any a b c v1 v2 v3 ⟨#[48]⟩ ⟨#[]⟩ v4 v5 w (by show 1<=_;omega) hv).mono ?_
  rintro e w' ⟨rfl,h⟩
  exact ⟨rfl,below_gb' h⟩
 obtain ⟨F,hF⟩:∃F,fromB ⟨2,a,b,c,P.data.toList⟩ ⟨v1,v2,v3,v4.data.toList⟩=F:=⟨_,rfl⟩
 have HFx:Hid (F=decide (x<=0)):=by show F=_;rw [<-hF,<-hx];rfl
 obtain ⟨R,hR⟩:∃R,admB ⟨sg,⟨2,a,b,c,P.data.toList⟩⟩ ⟨v1,v2,v3,v4.data.toList⟩=R:=⟨_,rfl⟩
 have HR:Hid (R=if sg=0 then N else if sg=1 then decide (0<=C) else if sg=2 then decide (C<=0) else if sg=3 then decide (0 < C) else if sg=4 then decide (C < 0) else if sg=5 then F && L else if sg=6 then (F && (decide (2 < 1) || decide (v1=a))) && (decide (2 < 2) || decide (v2=b)) else F):=by
  show R=_
  rw [<-hR];unfold admB;rw [hN,hC,hL,hF]
 rw [hR]
 have HSG:Hid (0<=sg/\sg<=7):=hs
 clear hN hC hL hx hF hR hp hv hs
 go_enter Tryz.func43,Tryz.ntmps43
 go_wp2_with (first | (go_at_call 71;refine (CP.out _).mono ?_))
 rintro e w1 ⟨rfl,hg⟩
 obtain ⟨A,hA⟩:∃A,w.heap.size=A:=⟨_,rfl⟩
 have HT:Hid (TR A sg 2 a b c P Q w1):=by
  refine TR.grow (w:=(w.alloc (.cells #[.int .i64 sg,.int .i64 2,.int .i64 a,.int .i64 b,.int .i64 c,.string P,.string Q] 84)).alloc (.cells #[.int .i64 v1,.int .i64 v2,.int .i64 v3,.string v4,.string v5] 39)) ?_ hg
  unfold TR
  rw [<-hA,Lib.alloc_old _ _ _ (by simp)];exact heap_alloc_new w _
 have HV:Hid (St (A+1) v1 v2 v3 v4 v5 w1):=by
  refine St.grow ?_ hg
  refine st_row (t:=39) ?_
  rw [<-hA];exact row2h w _ _
 have HG:Hid (w.grownBy w1 none):=gb_trans (gb_alloc (gb_alloc (gb_refl w none) _) _) hg
 try rw [hA]
 clear hA hg
 obtain ⟨t0,t1,t2,t3,t4,t5,t6⟩:=HT.out.cells
 obtain ⟨s1,s2,s3,s4,s5⟩:=HV.out
 go_wp2_with (first | (go_at_call 72;refine (CN.out _).mono ?_))
 rintro e w2 ⟨rfl,hg⟩
 replace HT:Hid (TR A sg 2 a b c P Q w2):=HT.out.grow hg
 replace HV:Hid (St (A+1) v1 v2 v3 v4 v5 w2):=HV.out.grow hg
 replace HG:Hid (w.grownBy w2 none):=gb_trans HG.out hg
 clear hg t0 t1 t2 t3 t4 t5 t6 s1 s2 s3 s4 s5
 obtain ⟨t0,t1,t2,t3,t4,t5,t6⟩:=HT.out.cells
 obtain ⟨s1,s2,s3,s4,s5⟩:=HV.out
 obtain ⟨fb,hfb⟩:∃fb,decide (x<=0)=fb:=⟨_,rfl⟩
 have HFB:Hid (decide (x<=0)=fb):=hfb
 clear hfb
 go_wp2_with (fail)
 go_region_held3 (fun w'=>w'.cell? ⟨A,1,none⟩=some (.int .i64 2)/\w'.cell? ⟨A,2,none⟩=some (.int .i64 a)/\w'.cell? ⟨A,3,none⟩=some (.int .i64 b)/\w'.cell? ⟨A,4,none⟩=some (.int .i64 c)/\w'.cell? ⟨A,5,none⟩=some (.string P)/\w'.cell? ⟨A,6,none⟩=some (.string Q)/\w'.cell? ⟨A+1,0,none⟩=some (.int .i64 v1)/\w'.cell? ⟨A+1,1,none⟩=some (.int .i64 v2)/\w'.cell? ⟨A+1,2,none⟩=some (.int .i64 v3)/\w'.cell? ⟨A+1,3,none⟩=some (.string v4)/\w'.cell? ⟨A+1,4,none⟩=some (.string v5)) (first | (simp only [cell_drew2];exact ⟨t1,t2,t3,t4,t5,t6,s1,s2,s3,s4,s5⟩) | exact keep11 (by assumption) (by assumption)) (first | (go_at_call 65;refine (CF.out _).mono ?_;rintro e w3 ⟨rfl,hg3⟩) | (go_at_call 64;refine (CC.out _).mono ?_;rintro e w4 ⟨rfl,hg4⟩))
 have hg5:=gb_trans (gb_undrew hg3) hg4
 replace HT:Hid (TR A sg 2 a b c P Q w4):=HT.out.grow hg5
 replace HV:Hid (St (A+1) v1 v2 v3 v4 v5 w4):=HV.out.grow hg5
 replace HG:Hid (w.grownBy w4 none):=gb_trans HG.out hg5
 clear hg3 hg4 hg5 t0 t1 t2 t3 t4 t5 t6 s1 s2 s3 s4 s5 HFB
 have hFv:=HFx.out
 subst hFv
 cases hxb:decide (x<=0) with
 | true =>
  rw [hxb] at HR
  clear hxb HFx
  have hss:sg=0\/sg=1\/sg=2\/sg=3\/sg=4\/sg=5\/sg=6\/sg=7:=by have:=HSG.out;omega
  clear HSG
  obtain ⟨t0,t1,t2,t3,t4,t5,t6⟩:=HT.out.cells
  obtain ⟨s1,s2,s3,s4,s5⟩:=HV.out
  rcases hss with rfl | rfl | rfl | rfl | rfl | rfl | rfl | rfl
  ·go_wp2
   all_goals go_ret
   all_goals (refine ⟨ret_bool ?_,HG.out⟩;have hr:=HR.out;clear HR;simp_all <;> rfl)
  ·go_wp2
   all_goals go_ret
   all_goals (refine ⟨ret_bool ?_,HG.out⟩;have hr:=HR.out;clear HR;simp_all <;> rfl)
  ·go_wp2
   all_goals go_ret
   all_goals (refine ⟨ret_bool ?_,HG.out⟩;have hr:=HR.out;clear HR;simp_all <;> rfl)
  ·go_wp2
   all_goals go_ret
   all_goals (refine ⟨ret_bool ?_,HG.out⟩;have hr:=HR.out;clear HR;simp_all <;> rfl)
  ·go_wp2
   all_goals go_ret
   all_goals (refine ⟨ret_bool ?_,HG.out⟩;have hr:=HR.out;clear HR;simp_all <;> rfl)
  ·go_wp2_with (first | (go_at_call 73;refine (CL.out _).mono ?_))
   rintro e w5 rfl hg5
   replace HG:Hid (w.grownBy w5 none):=gb_trans HG.out hg5
   clear hg5
   go_wp2
   all_goals go_ret
   all_goals (refine ⟨ret_bool ?_,HG.out⟩;have hr:=HR.out;clear HR;simp_all <;> rfl)
  ·go_wp2
   all_goals go_ret
   all_goals (refine ⟨ret_bool ?_,HG.out⟩;have hr:=HR.out;clear HR;simp_all <;> rfl)
  ·go_wp2
   all_goals go_ret
   all_goals (refine ⟨ret_bool ?_,HG.out⟩;have hr:=HR.out;clear HR;simp_all <;> rfl)
 | false =>
  rw [hxb] at HR
  clear hxb HFx
  have hss:sg=0\/sg=1\/sg=2\/sg=3\/sg=4\/sg=5\/sg=6\/sg=7:=by have:=HSG.out;omega
  clear HSG
  obtain ⟨t0,t1,t2,t3,t4,t5,t6⟩:=HT.out.cells
  obtain ⟨s1,s2,s3,s4,s5⟩:=HV.out
  rcases hss with rfl | rfl | rfl | rfl | rfl | rfl | rfl | rfl
  ·go_wp2
   all_goals go_ret
   all_goals (refine ⟨ret_bool ?_,HG.out⟩;have hr:=HR.out;clear HR;simp_all <;> rfl)
  ·go_wp2
   all_goals go_ret
   all_goals (refine ⟨ret_bool ?_,HG.out⟩;have hr:=HR.out;clear HR;simp_all <;> rfl)
  ·go_wp2
   all_goals go_ret
   all_goals (refine ⟨ret_bool ?_,HG.out⟩;have hr:=HR.out;clear HR;simp_all <;> rfl)
  ·go_wp2
   all_goals go_ret
   all_goals (refine ⟨ret_bool ?_,HG.out⟩;have hr:=HR.out;clear HR;simp_all <;> rfl)
  ·go_wp2
   all_goals go_ret
   all_goals (refine ⟨ret_bool ?_,HG.out⟩;have hr:=HR.out;clear HR;simp_all <;> rfl)
  ·go_wp2
   all_goals go_ret
   all_goals (refine ⟨ret_bool ?_,HG.out⟩;have hr:=HR.out;clear HR;simp_all <;> rfl)
  ·go_wp2
   all_goals go_ret
   all_goals (refine ⟨ret_bool ?_,HG.out⟩;have hr:=HR.out;clear HR;simp_all <;> rfl)
  ·go_wp2
   all_goals go_ret
   all_goals (refine ⟨ret_bool ?_,HG.out⟩;have hr:=HR.out;clear HR;simp_all <;> rfl)
set_option maxRecDepth 100000 in
set_option maxHeartbeats 3200000 in
theorem adm3_any (sg:Int) (hs:0<=sg/\sg<=7) (a b c v1 v2 v3:Int) (P Q v4 v5:ByteArray) (w:World) (hp:P.size<=1048576) (hv:v4.size<=1048576) :
  Calls Tryz.prog 43 #[.agg #[.int .i64 sg,.int .i64 3,.int .i64 a,.int .i64 b,.int .i64 c,.string P,.string Q],.agg #[.int .i64 v1,.int .i64 v2,.int .i64 v3,.string v4,.string v5]] w fun e w'=>e=.returned (.bool (admB ⟨sg,⟨3,a,b,c,P.data.toList⟩⟩ ⟨v1,v2,v3,v4.data.toList⟩))/\w.grownBy w' none:=by
 obtain ⟨N,hN⟩:∃N,namedB ⟨3,a,b,c,P.data.toList⟩ ⟨v1,v2,v3,v4.data.toList⟩=N:=⟨_,rfl⟩
 obtain ⟨C,hC⟩:∃C,placeB ⟨3,a,b,c,P.data.toList⟩ ⟨v1,v2,v3,v4.data.toList⟩=C:=⟨_,rfl⟩
 obtain ⟨L,hL⟩:∃L,leadsB ⟨3,a,b,c,P.data.toList⟩ ⟨v1,v2,v3,v4.data.toList⟩=L:=⟨_,rfl⟩
 obtain ⟨x,hx⟩:∃x,verC (firstV ⟨3,a,b,c,P.data.toList⟩) ⟨v1,v2,v3,v4.data.toList⟩=x:=⟨_,rfl⟩
 have CN:Hid (∀w,Calls Tryz.prog 72 #[.agg #[.int .i64 3,.int .i64 a,.int .i64 b,.int .i64 c,.string P,.string Q],.agg #[.int .i64 v1,.int .i64 v2,.int .i64 v3,.string v4,.string v5]] w fun e w'=>e=.returned (.bool N)/\w.grownBy w' none):=fun w=>by rw [<-hN];exact rnamed3_any a b c v1 v2 v3 P Q v4 v5 w hp hv
 have CP:Hid (∀w,Calls Tryz.prog 71 #[.agg #[.int .i64 3,.int .i64 a,.int .i64 b,.int .i64 c,.string P,.string Q],.agg #[.int .i64 v1,.int .i64 v2,.int .i64 v3,.string v4,.string v5]] w fun e w'=>e=.returned (.int .i64 C)/\w.grownBy w' none):=fun w=>by rw [<-hC];exact rplace3_any a b c v1 v2 v3 P Q v4 v5 w hp hv
 have CL:Hid (∀w,Calls Tryz.prog 73 #[.agg #[.int .i64 3,.int .i64 a,.int .i64 b,.int .i64 c,.string P,.string Q],.agg #[.int .i64 v1,.int .i64 v2,.int .i64 v3,.string v4,.string v5]] w fun e w'=>e=.returned (.bool L)/\w.grownBy w' none):=fun w=>by rw [<-hL];exact rleads3_any a b c v1 v2 v3 P Q v4 v5 w
 have CF:Hid (∀w,Calls Tryz.prog 65 #[.agg #[.int .i64 3,.int .i64 a,.int .i64 b,.int .i64 c,.string P,.string Q]] w fun e w'=>e=.returned (.agg #[.int .i64 a,.int .i64 b,.int .i64 c,.string P,.string ⟨#[]⟩])/\w.grownBy w' none):=fun w=>rfirst3_any a b c P Q w
 have CC:Hid (∀w,Calls Tryz.prog 64 #[.agg #[.int .i64 a,.int .i64 b,.int .i64 c,.string P,.string ⟨#[]⟩],.agg #[.int .i64 v1,.int .i64 v2,.int .i64 v3,.string v4,.string v5]] w fun e w'=>e=.returned (.int .i64 x)/\w.grownBy w' none):=fun w=>by
  rw [<-hx]
  refine (rcompare_any a b c v1 v2 v3 P ⟨#[]⟩ v4 v5 w (hp) hv).mono ?_
  rintro e w' ⟨rfl,h⟩
  exact ⟨rfl,below_gb' h⟩
 obtain ⟨F,hF⟩:∃F,fromB ⟨3,a,b,c,P.data.toList⟩ ⟨v1,v2,v3,v4.data.toList⟩=F:=⟨_,rfl⟩
 have HFx:Hid (F=decide (x<=0)):=by show F=_;rw [<-hF,<-hx];rfl
 obtain ⟨R,hR⟩:∃R,admB ⟨sg,⟨3,a,b,c,P.data.toList⟩⟩ ⟨v1,v2,v3,v4.data.toList⟩=R:=⟨_,rfl⟩
 have HR:Hid (R=if sg=0 then N else if sg=1 then decide (0<=C) else if sg=2 then decide (C<=0) else if sg=3 then decide (0 < C) else if sg=4 then decide (C < 0) else if sg=5 then F && L else if sg=6 then (F && (decide (3 < 1) || decide (v1=a))) && (decide (3 < 2) || decide (v2=b)) else F):=by
  show R=_
  rw [<-hR];unfold admB;rw [hN,hC,hL,hF]
 rw [hR]
 have HSG:Hid (0<=sg/\sg<=7):=hs
 clear hN hC hL hx hF hR hp hv hs
 go_enter Tryz.func43,Tryz.ntmps43
 go_wp2_with (first | (go_at_call 71;refine (CP.out _).mono ?_))
 rintro e w1 ⟨rfl,hg⟩
 obtain ⟨A,hA⟩:∃A,w.heap.size=A:=⟨_,rfl⟩
 have HT:Hid (TR A sg 3 a b c P Q w1):=by
  refine TR.grow (w:=(w.alloc (.cells #[.int .i64 sg,.int .i64 3,.int .i64 a,.int .i64 b,.int .i64 c,.string P,.string Q] 84)).alloc (.cells #[.int .i64 v1,.int .i64 v2,.int .i64 v3,.string v4,.string v5] 39)) ?_ hg
  unfold TR
  rw [<-hA,Lib.alloc_old _ _ _ (by simp)];exact heap_alloc_new w _
 have HV:Hid (St (A+1) v1 v2 v3 v4 v5 w1):=by
  refine St.grow ?_ hg
  refine st_row (t:=39) ?_
  rw [<-hA];exact row2h w _ _
 have HG:Hid (w.grownBy w1 none):=gb_trans (gb_alloc (gb_alloc (gb_refl w none) _) _) hg
 try rw [hA]
 clear hA hg
 obtain ⟨t0,t1,t2,t3,t4,t5,t6⟩:=HT.out.cells
 obtain ⟨s1,s2,s3,s4,s5⟩:=HV.out
 go_wp2_with (first | (go_at_call 72;refine (CN.out _).mono ?_))
 rintro e w2 ⟨rfl,hg⟩
 replace HT:Hid (TR A sg 3 a b c P Q w2):=HT.out.grow hg
 replace HV:Hid (St (A+1) v1 v2 v3 v4 v5 w2):=HV.out.grow hg
 replace HG:Hid (w.grownBy w2 none):=gb_trans HG.out hg
 clear hg t0 t1 t2 t3 t4 t5 t6 s1 s2 s3 s4 s5
 obtain ⟨t0,t1,t2,t3,t4,t5,t6⟩:=HT.out.cells
 obtain ⟨s1,s2,s3,s4,s5⟩:=HV.out
 obtain ⟨fb,hfb⟩:∃fb,decide (x<=0)=fb:=⟨_,rfl⟩
 have HFB:Hid (decide (x<=0)=fb):=hfb
 clear hfb
 go_wp2_with (fail)
 go_region_held3 (fun w'=>w'.cell? ⟨A,1,none⟩=some (.int .i64 3)/\w'.cell? ⟨A,2,none⟩=some (.int .i64 a)/\w'.cell? ⟨A,3,none⟩=some (.int .i64 b)/\w'.cell? ⟨A,4,none⟩=some (.int .i64 c)/\w'.cell? ⟨A,5,none⟩=some (.string P)/\w'.cell? ⟨A,6,none⟩=some (.string Q)/\w'.cell? ⟨A+1,0,none⟩=some (.int .i64 v1)/\w'.cell? ⟨A+1,1,none⟩=some (.int .i64 v2)/\w'.cell? ⟨A+1,2,none⟩=some (.int .i64 v3)/\w'.cell? ⟨A+1,3,none⟩=some (.string v4)/\w'.cell? ⟨A+1,4,none⟩=some (.string v5)) (first | (simp only [cell_drew2];exact ⟨t1,t2,t3,t4,t5,t6,s1,s2,s3,s4,s5⟩) | exact keep11 (by assumption) (by assumption)) (first | (go_at_call 65;refine (CF.out _).mono ?_;rintro e w3 ⟨rfl,hg3⟩) | (go_at_call 64;refine (CC.out _).mono ?_;rintro e w4 ⟨rfl,hg4⟩))
 have hg5:=gb_trans (gb_undrew hg3) hg4
 replace HT:Hid (TR A sg 3 a b c P Q w4):=HT.out.grow hg5
 replace HV:Hid (St (A+1) v1 v2 v3 v4 v5 w4):=HV.out.grow hg5
 replace HG:Hid (w.grownBy w4 none):=gb_trans HG.out hg5
 clear hg3 hg4 hg5 t0 t1 t2 t3 t4 t5 t6 s1 s2 s3 s4 s5 HFB
 have hFv:=HFx.out
 subst hFv
 cases hxb:decide (x<=0) with
 | true =>
  rw [hxb] at HR
  clear hxb HFx
  have hss:sg=0\/sg=1\/sg=2\/sg=3\/sg=4\/sg=5\/sg=6\/sg=7:=by have:=HSG.out;omega
  clear HSG
  obtain ⟨t0,t1,t2,t3,t4,t5,t6⟩:=HT.out.cells
  obtain ⟨s1,s2,s3,s4,s5⟩:=HV.out
  rcases hss with rfl | rfl | rfl | rfl | rfl | rfl | rfl | rfl
  ·go_wp2
   all_goals go_ret
   all_goals (refine ⟨ret_bool ?_,HG.out⟩;have hr:=HR.out;clear HR;simp_all <;> rfl)
  ·go_wp2
   all_goals go_ret
   all_goals (refine ⟨ret_bool ?_,HG.out⟩;have hr:=HR.out;clear HR;simp_all <;> rfl)
  ·go_wp2
   all_goals go_ret
   all_goals (refine ⟨ret_bool ?_,HG.out⟩;have hr:=HR.out;clear HR;simp_all <;> rfl)
  ·go_wp2
   all_goals go_ret
   all_goals (refine ⟨ret_bool ?_,HG.out⟩;have hr:=HR.out;clear HR;simp_all <;> rfl)
  ·go_wp2
   all_goals go_ret
   all_goals (refine ⟨ret_bool ?_,HG.out⟩;have hr:=HR.out;clear HR;simp_all <;> rfl)
  ·go_wp2_with (first | (go_at_call 73;refine (CL.out _).mono ?_))
   rintro e w5 rfl hg5
   replace HG:Hid (w.grownBy w5 none):=gb_trans HG.out hg5
   clear hg5
   go_wp2
   all_goals go_ret
   all_goals (refine ⟨ret_bool ?_,HG.out⟩;have hr:=HR.out;clear HR;simp_all <;> rfl)
  ·go_wp2
   all_goals go_ret
   all_goals (refine ⟨ret_bool ?_,HG.out⟩;have hr:=HR.out;clear HR;simp_all <;> rfl)
  ·go_wp2
   all_goals go_ret
   all_goals (refine ⟨ret_bool ?_,HG.out⟩;have hr:=HR.out;clear HR;simp_all <;> rfl)
 | false =>
  rw [hxb] at HR
  clear hxb HFx
  have hss:sg=0\/sg=1\/sg=2\/sg=3\/sg=4\/sg=5\/sg=6\/sg=7:=by have:=HSG.out;omega
  clear HSG
  obtain ⟨t0,t1,t2,t3,t4,t5,t6⟩:=HT.out.cells
  obtain ⟨s1,s2,s3,s4,s5⟩:=HV.out
  rcases hss with rfl | rfl | rfl | rfl | rfl | rfl | rfl | rfl
  ·go_wp2
   all_goals go_ret
   all_goals (refine ⟨ret_bool ?_,HG.out⟩;have hr:=HR.out;clear HR;simp_all <;> rfl)
  ·go_wp2
   all_goals go_ret
   all_goals (refine ⟨ret_bool ?_,HG.out⟩;have hr:=HR.out;clear HR;simp_all <;> rfl)
  ·go_wp2
   all_goals go_ret
   all_goals (refine ⟨ret_bool ?_,HG.out⟩;have hr:=HR.out;clear HR;simp_all <;> rfl)
  ·go_wp2
   all_goals go_ret
   all_goals (refine ⟨ret_bool ?_,HG.out⟩;have hr:=HR.out;clear HR;simp_all <;> rfl)
  ·go_wp2
   all_goals go_ret
   all_goals (refine ⟨ret_bool ?_,HG.out⟩;have hr:=HR.out;clear HR;simp_all <;> rfl)
  ·go_wp2
   all_goals go_ret
   all_goals (refine ⟨ret_bool ?_,HG.out⟩;have hr:=HR.out;clear HR;simp_all <;> rfl)
  ·go_wp2
   all_goals go_ret
   all_goals (refine ⟨ret_bool ?_,HG.out⟩;have hr:=HR.out;clear HR;simp_all <;> rfl)
  ·go_wp2
   all_goals go_ret
   all_goals (refine ⟨ret_bool ?_,HG.out⟩;have hr:=HR.out;clear HR;simp_all <;> rfl)
end Go.Proofs.YtonfldbigenfhaaGreatDoor
