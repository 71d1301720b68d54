import Derived.Test.YtonfldbigenfhaaGreatDoorB37
namespace Go.Proofs.YtonfldbigenfhaaGreatDoor
open Go.RowKit
set_option linter.unusedVariables false
def putp (w:World) (A:Nat) (m y1 y2 y3:Int) (x4 x5:ByteArray):World:=(((((w.setCell ⟨A,0,none⟩ (.int .i64 m)).setCell ⟨A,1,none⟩ (.int .i64 y1)).setCell ⟨A,2,none⟩ (.int .i64 y2)).setCell ⟨A,3,none⟩ (.int .i64 y3)).setCell ⟨A,4,none⟩ (.string x4)).setCell ⟨A,5,none⟩ (.string x5)
theorem putp_row {w:World} {A:Nat} {n z1 z2 z3:Int} {z4 z5:ByteArray} (h:VP A n z1 z2 z3 z4 z5 w) (m y1 y2 y3:Int) (x4 x5:ByteArray):VP A m y1 y2 y3 x4 x5 (putp w A m y1 y2 y3 x4 x5):=by
 unfold VP at h ⊢;simp [putp,World.setCell,Array.getElem?_modify,h]
theorem putp_vs {b A:Nat} {s:ByteArray} {j:Nat} {E:Int} {a:Nat} {w:World} (h:VS b s j E a w) (hn:b ≠ A) (m y1 y2 y3:Int) (x4 x5:ByteArray):VS b s j E a (putp w A m y1 y2 y3 x4 x5):=(((((h.other hn _ _).other hn _ _).other hn _ _).other hn _ _).other hn _ _).other hn _ _
theorem putp_gb {b A:Nat} {w W:World} (h:w.grownBy W (some b)) (hA:w.heap.size<=A) (m y1 y2 y3:Int) (x4 x5:ByteArray):w.grownBy (putp W A m y1 y2 y3 x4 x5) (some b):=gb_new (gb_new (gb_new (gb_new (gb_new (gb_new h hA _ _) hA _ _) hA _ _) hA _ _) hA _ _) hA _ _
theorem G2.gb {b v:Nat} {w u u':World} (h:w.grownBy u (some b)) (hv:w.heap.size<=v) (hg:G2 b v u u'):w.grownBy u' (some b) :=
 ⟨hg.os.trans h.os,hg.tape.trans h.tape,hg.output.trans h.output,Nat.le_trans h.size hg.size,fun k hk hn=>(hg.block k (Nat.lt_of_lt_of_le hk h.size) (by simpa using hn) (by omega)).trans (h.block k hk hn)⟩
theorem G2.vp {b v A:Nat} {u u':World} {n z1 z2 z3:Int} {z4 z5:ByteArray} (h:VP A n z1 z2 z3 z4 z5 u) (hg:G2 b v u u') (h1:A ≠ b) (h2:A ≠ v):VP A n z1 z2 z3 z4 z5 u':=by
 unfold VP at h ⊢
 rw [hg.block A ((Array.getElem?_eq_some_iff.1 h).1) h1 h2];exact h
theorem G2.gr {b v g:Nat} {u u':World} (h:GR g b u) (hg:G2 b v u u') (h1:g ≠ b) (h2:g ≠ v) (hl:g < u.heap.size):GR g b u':=by
 unfold GR at h ⊢
 unfold World.cell? at h ⊢
 rw [hg.block g hl h1 h2];exact h
theorem GR.lt {g b:Nat} {w:World} (h:GR g b w):g < w.heap.size:=cell_lt h
def QPaPost (b:Nat) (s:ByteArray) (R:Int × Nat × Pa) (w:World) (e:Ending) (w':World):Prop :=
 ∃(m y1 y2 y3:Int) (P Q:ByteArray) (j:Nat) (c:Nat),e=.returned (.agg #[.int .i64 m,.int .i64 y1,.int .i64 y2,.int .i64 y3,.string P,.string Q])/\VS b s j R.1 c w'/\w.grownBy w' (some b)/\(R.1=0->j=R.2.1/\m=(R.2.2.n:Int)/\y1=R.2.2.a/\y2=R.2.2.b/\y3=R.2.2.c/\P=⟨R.2.2.pre.toArray⟩)/\(¬ R.1=0->c=R.2.1)
def QLatePost (b:Nat) (s:ByteArray) (E:Int) (a:Nat) (w:World) (e:Ending) (w':World):Prop :=
 ∃(m y1 y2 y3:Int) (P Q:ByteArray) (j:Nat),e=.returned (.agg #[.int .i64 m,.int .i64 y1,.int .i64 y2,.int .i64 y3,.string P,.string Q])/\VS b s j E a w'/\w.grownBy w' (some b)/\j<=s.size
set_option maxRecDepth 100000 in
set_option maxHeartbeats 1600000 in
theorem rpartial_late (g b:Nat) (s:ByteArray) (i:Nat) (E:Int) (a:Nat) (w:World) (hE:¬ E=0) (hi:i<=s.size) (hgb:g ≠ b) (hg:GR g b w) (h:VS b s i E a w) (hs:s.size < 2 ^ 61) :
  Calls Tryz.prog 63 #[.pointer (some ⟨g,0,none⟩)] w (QLatePost b s E a w):=by
 have HG:Hid (GR g b w):=hg
 have HV:Hid (VS b s i E a w):=h
 have HB0:Hid (b < w.heap.size/\g < w.heap.size/\g ≠ b):=⟨(Array.getElem?_eq_some_iff.1 h).1,GR.lt hg,hgb⟩
 have CW:Hid (∀w,GR g b w->VS b s i E a w->Calls Tryz.prog 92 #[.pointer (some ⟨g,0,none⟩)] w fun e w'=>e=.returned (.bool false)/\∃n,w'=w.drewN n):=fun w h1 h2=>rwild_late g b s i E a w hE h1 h2
 have CN:Hid (∀w,VS b s i E a w->Calls Tryz.prog 53 #[.pointer (some ⟨b,0,none⟩)] w (LatePost b s E a w)):=fun w h1=>rnum_late b s i E hE a w hi h1 (by omega)
 have CI:Hid (∀j t w,GR g b w->VS b s j E a w->Calls Tryz.prog 36 #[.pointer (some ⟨g,0,none⟩),.string t] w fun e w'=>e=.returned (.bool (false))/\∃n,w'=w.drewN n):=fun j t w h1 h2=>is_late g b s t j E a w hE h1 h2
 clear h hg hgb hE hs hi
 go_enter Tryz.func63,Tryz.ntmps63
 go_wp2_with (fail)
 obtain ⟨A,hA⟩:∃A,w.heap.size=A:=⟨_,rfl⟩
 obtain ⟨W,hW⟩:∃W,(w.alloc (.cells #[.int .i64 0,.int .i64 0,.int .i64 0,.int .i64 0,.string ⟨#[]⟩,.string ⟨#[]⟩] 82)).alloc (.cells #[.int .i64 0,.int .i64 0,.int .i64 0,.int .i64 0,.string ⟨#[]⟩,.string ⟨#[]⟩] 82)=W:=⟨_,rfl⟩
 have hgW:w.grownBy W none:=by rw [<-hW];exact gb_alloc (gb_alloc (gb_refl w none) _) _
 have HPA:Hid (VP A 0 0 0 0 ⟨#[]⟩ ⟨#[]⟩ W):=by
  show VP A 0 0 0 0 _ _ W
  unfold VP
  rw [<-hW,<-hA,Lib.alloc_old _ _ _ (by simp)];exact heap_alloc_new w _
 have HPC:Hid (VP (A+1) 0 0 0 0 ⟨#[]⟩ ⟨#[]⟩ W):=by
  show VP (A+1) 0 0 0 0 _ _ W
  unfold VP
  rw [<-hW,<-hA];exact row2' w _ _
 have HBC:Hid (b ≠ A/\b ≠ A+1/\g ≠ A/\g ≠ A+1/\g ≠ b/\A ≠ A+1/\A ≠ b/\A+1 ≠ b/\w.heap.size<=A/\w.heap.size<=A+1):=by have:=HB0.out;refine ⟨?_,?_,?_,?_,?_,?_,?_,?_,?_,?_⟩ <;> omega
 replace HG:Hid (GR g b W):=HG.out.grow hgW
 replace HV:Hid (VS b s i E a W):=by show W.heap[b]?=_;rw [hgW.block b HB0.out.1 (by simp)];exact HV.out
 have HW:Hid (w.grownBy W (some b)):=gb_weak hgW _
 try rw [hW]
 try rw [hA]
 clear hgW hW hA
 go_wp2_with (first | (go_at_call 92;refine (CW.out _ HG.out HV.out).mono ?_))
 rintro e u1 ⟨rfl,n,hn⟩
 replace HV:Hid (VS b s (i) E a u1):=by show VS _ _ _ _ _ u1;rw [hn];exact HV.out.drew _
 replace HG:Hid (GR g b u1):=by show GR g b u1;rw [hn];exact HG.out
 replace HPA:Hid (VP A 0 0 0 0 ⟨#[]⟩ ⟨#[]⟩ u1):=by show VP A _ _ _ _ _ _ u1;rw [hn];exact HPA.out
 replace HPC:Hid (VP (A+1) 0 0 0 0 ⟨#[]⟩ ⟨#[]⟩ u1):=by show VP _ _ _ _ _ _ _ u1;rw [hn];exact HPC.out
 replace HW:Hid (w.grownBy u1 (some b)):=by show w.grownBy u1 (some b);rw [hn];exact gb_drew HW.out _
 clear hn
 have g0:u1.cell? ⟨g,0,none⟩=some (.pointer (some ⟨b,0,none⟩)):=HG.out
 go_wp2_with (first | (go_at_call 53;refine (CN.out _ HV.out).mono ?_))
 rintro e u2 ⟨v,j,rfl,hv,hg,hj⟩
 have HJ:Hid (j<=s.size):=hj
 replace HV:Hid (VS b s (j) E a u2):=hv
 replace HG:Hid (GR g b u2):=HG.out.growb hg HBC.out.2.2.2.2.1
 replace HPA:Hid (VP A 0 0 0 0 ⟨#[]⟩ ⟨#[]⟩ u2):=HPA.out.grow hg HBC.out.2.2.2.2.2.2.1
 replace HPC:Hid (VP (A+1) 0 0 0 0 ⟨#[]⟩ ⟨#[]⟩ u2):=HPC.out.grow hg HBC.out.2.2.2.2.2.2.2.1
 replace HW:Hid (w.grownBy u2 (some b)):=gb_trans HW.out hg
 clear hv hg
 clear hj g0
 obtain ⟨c0,c1,c2,c3,c4,c5⟩:=HPC.out.cells
 have cf:=HPC.out.f
 go_wp2_with (first | (go_at_call 36;refine (CI.out j _ _ ((HG.out.other HBC.out.2.2.2.1 _ _).other HBC.out.2.2.2.1 _ _) ((HV.out.other HBC.out.2.1 _ _).other HBC.out.2.1 _ _)).mono ?_))
 rintro e u3 ⟨rfl,n,hn⟩
 replace HV:Hid (VS b s j E a u3):=by show VS _ _ _ _ _ u3;rw [hn];exact (((HV.out.other HBC.out.2.1 _ _).other HBC.out.2.1 _ _)).drew _
 replace HPA:Hid (VP A 0 0 0 0 ⟨#[]⟩ ⟨#[]⟩ u3):=by show VP A _ _ _ _ _ _ u3;rw [hn];exact (HPA.out.other HBC.out.2.2.2.2.2.1 _ _).other HBC.out.2.2.2.2.2.1 _ _
 replace HPC:Hid (VP (A+1) 1 v 0 0 ⟨#[]⟩ ⟨#[]⟩ u3):=by show VP _ _ _ _ _ _ _ u3;rw [hn];exact (HPC.out.set0 _).setN _
 replace HW:Hid (w.grownBy u3 (some b)):=by show w.grownBy u3 (some b);rw [hn];exact gb_drew (gb_new (gb_new HW.out HBC.out.2.2.2.2.2.2.2.2.2 _ _) HBC.out.2.2.2.2.2.2.2.2.2 _ _) _
 clear hn c0 c1 c2 c3 c4 c5 cf
 obtain ⟨a0,a1,a2,a3,a4,a5⟩:=HPA.out.cells
 have af:=HPA.out.f
 obtain ⟨c0,c1,c2,c3,c4,c5⟩:=HPC.out.cells
 have cf:=HPC.out.f
 obtain ⟨n1,n2,n3,n4,n5,n6,n7,n8,n9,n10⟩:=HBC.out
 clear n9 n10
 go_wp2
 have hrow:=putp_row (w:=u3) HPA.out 1 v 0 0 ⟨#[]⟩ ⟨#[]⟩
 exact bodyPost_ret (results_cell_row rfl _ _ A _ _ (0,0) _ rfl hrow Tryz.underlying82 rfl (by kernel_rfl)) rfl ⟨1,v,0,0,⟨#[]⟩,⟨#[]⟩,j,rfl,putp_vs HV.out HBC.out.1 _ _ _ _ _ _,putp_gb HW.out HBC.out.2.2.2.2.2.2.2.2.1 _ _ _ _ _ _,HJ.out⟩
set_option maxRecDepth 100000 in
set_option maxHeartbeats 3200000 in
theorem rpartial_any (g b:Nat) (s:ByteArray) (i:Nat) (a:Nat) (w:World) (hi:i<=s.size) (hgb:g ≠ b) (hg:GR g b w) (h:VS b s i 0 a w) (hs:s.size < 2 ^ 61) :
  Calls Tryz.prog 63 #[.pointer (some ⟨g,0,none⟩)] w (QPaPost b s (rdPa s.data.toList i) w):=by
 have HG:Hid (GR g b w):=hg
 have HV:Hid (VS b s i 0 a w):=h
 have HB0:Hid (b < w.heap.size/\g < w.heap.size/\g ≠ b):=⟨(Array.getElem?_eq_some_iff.1 h).1,GR.lt hg,hgb⟩
 have CW:Hid (∀i a w,i<=s.size->GR g b w->VS b s i 0 a w->Calls Tryz.prog 92 #[.pointer (some ⟨g,0,none⟩)] w fun e w'=>e=.returned (.bool (wildAt s.data.toList i))/\VS b s (if wildAt s.data.toList i=true then i+1 else i) 0 a w'/\w.grownBy w' (some b)):=fun i a w hi h1 h2=>rwild_any g b s i a w hi hgb h1 h2 hs
 have CN:Hid (∀i a w,i<=s.size->VS b s i 0 a w->Calls Tryz.prog 53 #[.pointer (some ⟨b,0,none⟩)] w (NumPost b s i w)):=fun i a w hi h1=>rnum_any b s i a w hi h1 (by omega)
 have CI:Hid (∀i c w,i<=s.size->GR g b w->VS b s i 0 c w->Calls Tryz.prog 36 #[.pointer (some ⟨g,0,none⟩),.string ⟨#[46]⟩] w fun e w'=>e=.returned (.bool (decide (s.data.toList[i]?=some 46)))/\∃n,w'=w.drewN n):=fun i c w hi h1 h2=>is_one g b s i 46 c w hi h1 h2 hs
 have CIL:Hid (∀(i:Nat) (E:Int) (c:Nat) w,¬ E=0->GR g b w->VS b s i E c w->Calls Tryz.prog 36 #[.pointer (some ⟨g,0,none⟩),.string ⟨#[46]⟩] w fun e w'=>e=.returned (.bool (false))/\∃n,w'=w.drewN n):=fun i E c w hE h1 h2=>is_late g b s _ i E c w hE h1 h2
 have CT:Hid (∀(v:Nat) (i c:Nat) (m y1 y2 y3:Int) w,i<=s.size->VS b s i 0 c w->VP v m y1 y2 y3 ⟨#[]⟩ ⟨#[]⟩ w->b ≠ v->Calls Tryz.prog 55 #[.pointer (some ⟨b,0,none⟩),.pointer (some ⟨v,1,none⟩)] w fun e w'=>e=.returned (.tuple #[])/\QTailPost b v s i m y1 y2 y3 w w'):=fun v i c m y1 y2 y3 w hi h1 h2 h3=>qtail_any b v s i c m y1 y2 y3 w hi h1 h2 h3 (by omega)
 have CTL:Hid (∀(v:Nat) (i:Nat) (E:Int) (c:Nat) w,¬ E=0->VS b s i E c w->Calls Tryz.prog 55 #[.pointer (some ⟨b,0,none⟩),.pointer (some ⟨v,1,none⟩)] w fun e w'=>e=.returned (.tuple #[])/\∃n,w'=w.drewN n):=fun v i E c w hE h1=>qtail_skip b v s i E hE c w h1
 obtain ⟨l,hl⟩:∃l,s.data.toList=l:=⟨_,rfl⟩
 have hll:l.length=s.size:=by rw [<-hl];simp
 have HLL:Hid (l.length=s.size):=hll
 rw [hl] at CW CI ⊢
 have HNP:Hid (∀i w e w',NumPost b s i w e w'->∃(v:Int) (j:Nat) (E:Int) (c:Nat),e=.returned (.int .i64 v)/\VS b s j E c w'/\w.grownBy w' (some b)/\E=(rdNum l i).1/\(E=0->v=(rdNum l i).2.1/\j=(rdNum l i).2.2/\j<=s.size)/\(E ≠ 0->c=(rdNum l i).2.2)):=fun i w e w' h=>by rw [<-hl];exact h
 have HTP:Hid (∀(v i:Nat) (m y1 y2 y3:Int) (w w':World),QTailPost b v s i m y1 y2 y3 w w'->∃(j:Nat) (E:Int) (c:Nat) (P B:ByteArray),VS b s j E c w'/\VP v m y1 y2 y3 P B w'/\G2 b v w w'/\E=(tailP l i).1/\(E=0->P=⟨(tailP l i).2.2.1.toArray⟩/\B=⟨(tailP l i).2.2.2.toArray⟩/\j=(tailP l i).2.1/\j<=s.size)/\(E ≠ 0->c=(tailP l i).2.1)):=fun v i m y1 y2 y3 w w' h=>by rw [<-hl];exact h
 obtain ⟨R,hR⟩:∃R,rdPa l i=R:=⟨_,rfl⟩
 rw [hR]
 have HRk:Hid (R=if wildAt l i=true then (0,i+1,pa0) else if (rdNum l i).1=0 then pa1 l (rdNum l i).2.2 (rdNum l i).2.1 else ((rdNum l i).1,(rdNum l i).2.2,pa0)):=hR.symm
 have HDL:Hid (∀i,l[i]?=some 46->i+1<=s.size):=fun i hc=>by have:=dot_lt hc;rw [hll] at this;exact this
 have HIi:Hid (i<=s.size):=hi
 have HSZ:Hid (s.size < 2 ^ 61):=hs
 clear hl hll hR h hg hgb hs hi
 go_enter Tryz.func63,Tryz.ntmps63
 go_wp2_with (fail)
 obtain ⟨A,hA⟩:∃A,w.heap.size=A:=⟨_,rfl⟩
 obtain ⟨W,hW⟩:∃W,(w.alloc (.cells #[.int .i64 0,.int .i64 0,.int .i64 0,.int .i64 0,.string ⟨#[]⟩,.string ⟨#[]⟩] 82)).alloc (.cells #[.int .i64 0,.int .i64 0,.int .i64 0,.int .i64 0,.string ⟨#[]⟩,.string ⟨#[]⟩] 82)=W:=⟨_,rfl⟩
 have hgW:w.grownBy W none:=by rw [<-hW];exact gb_alloc (gb_alloc (gb_refl w none) _) _
 have HPA:Hid (VP A 0 0 0 0 ⟨#[]⟩ ⟨#[]⟩ W):=by
  show VP A 0 0 0 0 _ _ W
  unfold VP
  rw [<-hW,<-hA,Lib.alloc_old _ _ _ (by simp)];exact heap_alloc_new w _
 have HPC:Hid (VP (A+1) 0 0 0 0 ⟨#[]⟩ ⟨#[]⟩ W):=by
  show VP (A+1) 0 0 0 0 _ _ W
  unfold VP
  rw [<-hW,<-hA];exact row2' w _ _
 have HBC:Hid (b ≠ A/\b ≠ A+1/\g ≠ A/\g ≠ A+1/\g ≠ b/\A ≠ A+1/\A ≠ b/\A+1 ≠ b/\w.heap.size<=A/\w.heap.size<=A+1):=by have:=HB0.out;refine ⟨?_,?_,?_,?_,?_,?_,?_,?_,?_,?_⟩ <;> omega
 replace HG:Hid (GR g b W):=HG.out.grow hgW
 replace HV:Hid (VS b s i 0 a W):=by show W.heap[b]?=_;rw [hgW.block b HB0.out.1 (by simp)];exact HV.out
 have HW:Hid (w.grownBy W (some b)):=gb_weak hgW _
 try rw [hW]
 try rw [hA]
 clear hgW hW hA
 have HJ0:Hid (i<=s.size):=HIi.out
 cases hw0:wildAt l (i) with
 | true =>
  have HZ:Hid (R=(0,i+1,⟨0,0,0,0,[]⟩)):=by show R=_;rw [HRk.out,if_pos hw0];rfl
  have CW1:Hid (∀w,GR g b w->VS b s (i) 0 a w->Calls Tryz.prog 92 #[.pointer (some ⟨g,0,none⟩)] w fun e w'=>e=.returned (.bool true)/\VS b s (i+1) 0 a w'/\w.grownBy w' (some b)):=fun w h1 h2=>by have:=CW.out (i) a w HJ0.out h1 h2;rw [hw0] at this;exact this
  clear hw0
  go_wp2_with (first | (go_at_call 92;refine (CW1.out _ HG.out HV.out).mono ?_))
  rintro e v0 ⟨rfl,hv,hg⟩
  replace HV:Hid (VS b s (i+1) 0 a v0):=hv
  replace HG:Hid (GR g b v0):=HG.out.growb hg HBC.out.2.2.2.2.1
  replace HPA:Hid (VP A 0 0 0 0 ⟨#[]⟩ ⟨#[]⟩ v0):=HPA.out.grow hg HBC.out.2.2.2.2.2.2.1
  replace HPC:Hid (VP (A+1) 0 0 0 0 ⟨#[]⟩ ⟨#[]⟩ v0):=HPC.out.grow hg HBC.out.2.2.2.2.2.2.2.1
  replace HW:Hid (w.grownBy v0 (some b)):=gb_trans HW.out hg
  clear hv hg
  obtain ⟨a0,a1,a2,a3,a4,a5⟩:=HPA.out.cells
  have af:=HPA.out.f
  obtain ⟨c0,c1,c2,c3,c4,c5⟩:=HPC.out.cells
  have cf:=HPC.out.f
  obtain ⟨n1,n2,n3,n4,n5,n6,n7,n8,n9,n10⟩:=HBC.out
  clear n9 n10
  go_wp2
  have hrow:=putp_row (w:=v0) HPA.out 0 0 0 0 ⟨#[]⟩ ⟨#[]⟩
  exact bodyPost_ret (results_cell_row rfl _ _ A _ _ (0,0) _ rfl hrow Tryz.underlying82 rfl (by kernel_rfl)) rfl (by rw [HZ.out];exact ⟨0,0,0,0,⟨#[]⟩,⟨#[]⟩,i+1,a,rfl,putp_vs HV.out HBC.out.1 _ _ _ _ _ _,putp_gb HW.out HBC.out.2.2.2.2.2.2.2.2.1 _ _ _ _ _ _,fun _=>⟨rfl,rfl,rfl,rfl,rfl,rfl⟩,fun h=>absurd rfl h⟩)
 | false =>
  have HRn0:Hid (R=if (rdNum l (i)).1=0 then pa1 l (rdNum l (i)).2.2 (rdNum l (i)).2.1 else ((rdNum l (i)).1,(rdNum l (i)).2.2,pa0)):=by show R=_;rw [HRk.out,if_neg (by rw [hw0];decide)]
  have CW1:Hid (∀w,GR g b w->VS b s (i) 0 a w->Calls Tryz.prog 92 #[.pointer (some ⟨g,0,none⟩)] w fun e w'=>e=.returned (.bool false)/\VS b s (i) 0 a w'/\w.grownBy w' (some b)):=fun w h1 h2=>by have:=CW.out (i) a w HJ0.out h1 h2;rw [hw0] at this;exact this
  have CN1:Hid (∀w,VS b s (i) 0 a w->Calls Tryz.prog 53 #[.pointer (some ⟨b,0,none⟩)] w (NumPost b s (i) w)):=fun w h=>CN.out (i) a w HJ0.out h
  clear hw0 HRk
  go_wp2_with (first | (go_at_call 92;refine (CW1.out _ HG.out HV.out).mono ?_))
  rintro e v0 ⟨rfl,hv,hg⟩
  replace HV:Hid (VS b s (i) 0 a v0):=hv
  replace HG:Hid (GR g b v0):=HG.out.growb hg HBC.out.2.2.2.2.1
  replace HPA:Hid (VP A 0 0 0 0 ⟨#[]⟩ ⟨#[]⟩ v0):=HPA.out.grow hg HBC.out.2.2.2.2.2.2.1
  replace HPC:Hid (VP (A+1) 0 0 0 0 ⟨#[]⟩ ⟨#[]⟩ v0):=HPC.out.grow hg HBC.out.2.2.2.2.2.2.2.1
  replace HW:Hid (w.grownBy v0 (some b)):=gb_trans HW.out hg
  clear hv hg
  have g0:v0.cell? ⟨g,0,none⟩=some (.pointer (some ⟨b,0,none⟩)):=HG.out
  go_wp2_with (first | (go_at_call 53;refine (CN1.out _ HV.out).mono ?_))
  intro e z0 hnp
  obtain ⟨x1,j0,E0,d0,rfl,hv,hg,hE,hok,herr⟩:=HNP.out _ _ _ _ hnp
  replace HV:Hid (VS b s (j0) E0 d0 z0):=hv
  replace HG:Hid (GR g b z0):=HG.out.growb hg HBC.out.2.2.2.2.1
  replace HPA:Hid (VP A 0 0 0 0 ⟨#[]⟩ ⟨#[]⟩ z0):=HPA.out.grow hg HBC.out.2.2.2.2.2.2.1
  replace HPC:Hid (VP (A+1) 0 0 0 0 ⟨#[]⟩ ⟨#[]⟩ z0):=HPC.out.grow hg HBC.out.2.2.2.2.2.2.2.1
  replace HW:Hid (w.grownBy z0 (some b)):=gb_trans HW.out hg
  clear hv hg
  have HNR0:Hid (E0=(rdNum l (i)).1/\(E0=0->x1=(rdNum l (i)).2.1/\j0=(rdNum l (i)).2.2/\j0<=s.size)/\(E0 ≠ 0->d0=(rdNum l (i)).2.2)):=⟨hE,hok,herr⟩
  clear hnp hE hok herr g0
  obtain ⟨c0,c1,c2,c3,c4,c5⟩:=HPC.out.cells
  have cf:=HPC.out.f
  have g0:z0.cell? ⟨g,0,none⟩=some (.pointer (some ⟨b,0,none⟩)):=HG.out
  have n4:=HBC.out.2.2.2.1
  by_cases hz0:E0=0
  ·subst hz0
   have HQ0:Hid (j0<=s.size):=(HNR0.out.2.1 rfl).2.2
   have HRr0:Hid (R=pa1 l j0 x1):=by
    show R=_
    have h1:=HNR0.out.1
    obtain ⟨e1,e2,_⟩:=HNR0.out.2.1 rfl
    rw [HRn0.out,if_pos h1.symm,<-e1,<-e2]
   cases hc0:decide (l[j0]?=some 46) with
   | false =>
    have hc':=of_decide_eq_false hc0
    have HZ:Hid (R=(0,j0,⟨1,x1,0,0,[]⟩)):=by show R=_;rw [HRr0.out];unfold pa1;rw [if_neg hc']
    have CIx:Hid (∀w,GR g b w->VS b s j0 0 d0 w->Calls Tryz.prog 36 #[.pointer (some ⟨g,0,none⟩),.string ⟨#[46]⟩] w fun e w'=>e=.returned (.bool (false))/\∃n,w'=w.drewN n):=fun w h1 h2=>by have:=CI.out j0 d0 w HQ0.out h1 h2;rw [hc0] at this;exact this
    clear hc0 hc'
    go_wp2_with (first | (go_at_call 36;refine (CIx.out _ ((HG.out.other HBC.out.2.2.2.1 _ _).other HBC.out.2.2.2.1 _ _) ((HV.out.other HBC.out.2.1 _ _).other HBC.out.2.1 _ _)).mono ?_))
    rintro e y0 ⟨rfl,n,hn⟩
    replace HV:Hid (VS b s j0 0 d0 y0):=by show VS _ _ _ _ _ y0;rw [hn];exact ((HV.out.other HBC.out.2.1 _ _).other HBC.out.2.1 _ _).drew _
    replace HG:Hid (GR g b y0):=by show GR g b y0;rw [hn];exact (HG.out.other HBC.out.2.2.2.1 _ _).other HBC.out.2.2.2.1 _ _
    replace HPA:Hid (VP A 0 0 0 0 ⟨#[]⟩ ⟨#[]⟩ y0):=by show VP A _ _ _ _ _ _ y0;rw [hn];exact (HPA.out.other HBC.out.2.2.2.2.2.1 _ _).other HBC.out.2.2.2.2.2.1 _ _
    replace HPC:Hid (VP (A+1) 1 x1 0 0 ⟨#[]⟩ ⟨#[]⟩ y0):=by show VP _ _ _ _ _ _ _ y0;rw [hn];exact (HPC.out.set0 _).setN _
    replace HW:Hid (w.grownBy y0 (some b)):=by show w.grownBy y0 (some b);rw [hn];exact gb_drew (gb_new (gb_new HW.out HBC.out.2.2.2.2.2.2.2.2.2 _ _) HBC.out.2.2.2.2.2.2.2.2.2 _ _) _
    clear hn c0 c1 c2 c3 c4 c5 cf g0 n4
    obtain ⟨a0,a1,a2,a3,a4,a5⟩:=HPA.out.cells
    have af:=HPA.out.f
    obtain ⟨c0,c1,c2,c3,c4,c5⟩:=HPC.out.cells
    have cf:=HPC.out.f
    obtain ⟨n1,n2,n3,n4,n5,n6,n7,n8,n9,n10⟩:=HBC.out
    clear n9 n10
    go_wp2
    have hrow:=putp_row (w:=y0) HPA.out 1 x1 0 0 ⟨#[]⟩ ⟨#[]⟩
    exact bodyPost_ret (results_cell_row rfl _ _ A _ _ (0,0) _ rfl hrow Tryz.underlying82 rfl (by kernel_rfl)) rfl (by rw [HZ.out];exact ⟨1,x1,0,0,⟨#[]⟩,⟨#[]⟩,j0,d0,rfl,putp_vs HV.out HBC.out.1 _ _ _ _ _ _,putp_gb HW.out HBC.out.2.2.2.2.2.2.2.2.1 _ _ _ _ _ _,fun _=>⟨rfl,rfl,rfl,rfl,rfl,rfl⟩,fun h=>absurd rfl h⟩)
   | true =>
    have hc':=of_decide_eq_true hc0
    have HRk:Hid (R=if wildAt l (j0+1)=true then (0,j0+1+1,⟨1,x1,0,0,[]⟩) else if (rdNum l (j0+1)).1=0 then pa2 l (rdNum l (j0+1)).2.2 x1 (rdNum l (j0+1)).2.1 else ((rdNum l (j0+1)).1,(rdNum l (j0+1)).2.2,pa0)):=by show R=_;rw [HRr0.out];unfold pa1;rw [if_pos hc']
    have HJ1:Hid (j0+1<=s.size):=HDL.out _ hc'
    have hwr:IntKind.i64.wrap ((j0:Int)+1)=((j0+1:Nat):Int):=by rw [IntKind.wrap_i64];have:=HJ1.out;have:=HSZ.out;omega
    have CIx:Hid (∀w,GR g b w->VS b s j0 0 d0 w->Calls Tryz.prog 36 #[.pointer (some ⟨g,0,none⟩),.string ⟨#[46]⟩] w fun e w'=>e=.returned (.bool (true))/\∃n,w'=w.drewN n):=fun w h1 h2=>by have:=CI.out j0 d0 w HQ0.out h1 h2;rw [hc0] at this;exact this
    clear hc0 hc'
    go_wp2_with (first | (go_at_call 36;refine (CIx.out _ ((HG.out.other HBC.out.2.2.2.1 _ _).other HBC.out.2.2.2.1 _ _) ((HV.out.other HBC.out.2.1 _ _).other HBC.out.2.1 _ _)).mono ?_))
    rintro e y0 ⟨rfl,n,hn⟩
    replace HV:Hid (VS b s j0 0 d0 y0):=by show VS _ _ _ _ _ y0;rw [hn];exact ((HV.out.other HBC.out.2.1 _ _).other HBC.out.2.1 _ _).drew _
    replace HG:Hid (GR g b y0):=by show GR g b y0;rw [hn];exact (HG.out.other HBC.out.2.2.2.1 _ _).other HBC.out.2.2.2.1 _ _
    replace HPA:Hid (VP A 0 0 0 0 ⟨#[]⟩ ⟨#[]⟩ y0):=by show VP A _ _ _ _ _ _ y0;rw [hn];exact (HPA.out.other HBC.out.2.2.2.2.2.1 _ _).other HBC.out.2.2.2.2.2.1 _ _
    replace HPC:Hid (VP (A+1) 1 x1 0 0 ⟨#[]⟩ ⟨#[]⟩ y0):=by show VP _ _ _ _ _ _ _ y0;rw [hn];exact (HPC.out.set0 _).setN _
    replace HW:Hid (w.grownBy y0 (some b)):=by show w.grownBy y0 (some b);rw [hn];exact gb_drew (gb_new (gb_new HW.out HBC.out.2.2.2.2.2.2.2.2.2 _ _) HBC.out.2.2.2.2.2.2.2.2.2 _ _) _
    clear hn c0 c1 c2 c3 c4 c5 cf g0 n4
    have b1:=HV.out.c1
    have bf:=HV.out.f1
    have g0:y0.cell? ⟨g,0,none⟩=some (.pointer (some ⟨b,0,none⟩)):=HG.out
    go_wp2_with (fail)
    obtain ⟨q0,hq⟩:∃q,y0.setCell ⟨b,1,none⟩ (.int .i64 ((j0:Int)+1))=q:=⟨_,rfl⟩
    replace HV:Hid (VS b s (j0+1) 0 d0 q0):=by show VS _ _ _ _ _ q0;rw [<-hq,show ((j0:Int)+1)=((j0+1:Nat):Int) by omega];exact HV.out.set1 _
    replace HG:Hid (GR g b q0):=by show GR g b q0;rw [<-hq];exact HG.out.other HBC.out.2.2.2.2.1 _ _
    replace HPA:Hid (VP A 0 0 0 0 ⟨#[]⟩ ⟨#[]⟩ q0):=by show VP A _ _ _ _ _ _ q0;rw [<-hq];exact HPA.out.other HBC.out.2.2.2.2.2.2.1 _ _
    replace HPC:Hid (VP (A+1) 1 x1 0 0 ⟨#[]⟩ ⟨#[]⟩ q0):=by show VP _ _ _ _ _ _ _ q0;rw [<-hq];exact HPC.out.other HBC.out.2.2.2.2.2.2.2.1 _ _
    replace HW:Hid (w.grownBy q0 (some b)):=by show w.grownBy q0 (some b);rw [<-hq];exact gb_set HW.out _ _
    try rw [hq]
    clear hq b1 bf g0 hwr
    cases hw1:wildAt l (j0+1) with
    | true =>
     have HZ:Hid (R=(0,j0+1+1,⟨1,x1,0,0,[]⟩)):=by show R=_;rw [HRk.out,if_pos hw1]
     have CW1:Hid (∀w,GR g b w->VS b s (j0+1) 0 d0 w->Calls Tryz.prog 92 #[.pointer (some ⟨g,0,none⟩)] w fun e w'=>e=.returned (.bool true)/\VS b s (j0+1+1) 0 d0 w'/\w.grownBy w' (some b)):=fun w h1 h2=>by have:=CW.out (j0+1) d0 w HJ1.out h1 h2;rw [hw1] at this;exact this
     clear hw1
     refine (CW1.out _ HG.out HV.out).mono ?_
     rintro e v1 ⟨rfl,hv,hg⟩
     replace HV:Hid (VS b s (j0+1+1) 0 d0 v1):=hv
     replace HG:Hid (GR g b v1):=HG.out.growb hg HBC.out.2.2.2.2.1
     replace HPA:Hid (VP A 0 0 0 0 ⟨#[]⟩ ⟨#[]⟩ v1):=HPA.out.grow hg HBC.out.2.2.2.2.2.2.1
     replace HPC:Hid (VP (A+1) 1 x1 0 0 ⟨#[]⟩ ⟨#[]⟩ v1):=HPC.out.grow hg HBC.out.2.2.2.2.2.2.2.1
     replace HW:Hid (w.grownBy v1 (some b)):=gb_trans HW.out hg
     clear hv hg
     obtain ⟨a0,a1,a2,a3,a4,a5⟩:=HPA.out.cells
     have af:=HPA.out.f
     obtain ⟨c0,c1,c2,c3,c4,c5⟩:=HPC.out.cells
     have cf:=HPC.out.f
     obtain ⟨n1,n2,n3,n4,n5,n6,n7,n8,n9,n10⟩:=HBC.out
     clear n9 n10
     go_wp2
     have hrow:=putp_row (w:=v1) HPA.out 1 x1 0 0 ⟨#[]⟩ ⟨#[]⟩
     exact bodyPost_ret (results_cell_row rfl _ _ A _ _ (0,0) _ rfl hrow Tryz.underlying82 rfl (by kernel_rfl)) rfl (by rw [HZ.out];exact ⟨1,x1,0,0,⟨#[]⟩,⟨#[]⟩,j0+1+1,d0,rfl,putp_vs HV.out HBC.out.1 _ _ _ _ _ _,putp_gb HW.out HBC.out.2.2.2.2.2.2.2.2.1 _ _ _ _ _ _,fun _=>⟨rfl,rfl,rfl,rfl,rfl,rfl⟩,fun h=>absurd rfl h⟩)
    | false =>
     have HRn1:Hid (R=if (rdNum l (j0+1)).1=0 then pa2 l (rdNum l (j0+1)).2.2 x1 (rdNum l (j0+1)).2.1 else ((rdNum l (j0+1)).1,(rdNum l (j0+1)).2.2,pa0)):=by show R=_;rw [HRk.out,if_neg (by rw [hw1];decide)]
     have CW1:Hid (∀w,GR g b w->VS b s (j0+1) 0 d0 w->Calls Tryz.prog 92 #[.pointer (some ⟨g,0,none⟩)] w fun e w'=>e=.returned (.bool false)/\VS b s (j0+1) 0 d0 w'/\w.grownBy w' (some b)):=fun w h1 h2=>by have:=CW.out (j0+1) d0 w HJ1.out h1 h2;rw [hw1] at this;exact this
     have CN1:Hid (∀w,VS b s (j0+1) 0 d0 w->Calls Tryz.prog 53 #[.pointer (some ⟨b,0,none⟩)] w (NumPost b s (j0+1) w)):=fun w h=>CN.out (j0+1) d0 w HJ1.out h
     clear hw1 HRk
     refine (CW1.out _ HG.out HV.out).mono ?_
     rintro e v1 ⟨rfl,hv,hg⟩
     replace HV:Hid (VS b s (j0+1) 0 d0 v1):=hv
     replace HG:Hid (GR g b v1):=HG.out.growb hg HBC.out.2.2.2.2.1
     replace HPA:Hid (VP A 0 0 0 0 ⟨#[]⟩ ⟨#[]⟩ v1):=HPA.out.grow hg HBC.out.2.2.2.2.2.2.1
     replace HPC:Hid (VP (A+1) 1 x1 0 0 ⟨#[]⟩ ⟨#[]⟩ v1):=HPC.out.grow hg HBC.out.2.2.2.2.2.2.2.1
     replace HW:Hid (w.grownBy v1 (some b)):=gb_trans HW.out hg
     clear hv hg
     have g0:v1.cell? ⟨g,0,none⟩=some (.pointer (some ⟨b,0,none⟩)):=HG.out
     go_wp2_with (first | (go_at_call 53;refine (CN1.out _ HV.out).mono ?_))
     intro e z1 hnp
     obtain ⟨x2,j1,E1,d1,rfl,hv,hg,hE,hok,herr⟩:=HNP.out _ _ _ _ hnp
     replace HV:Hid (VS b s (j1) E1 d1 z1):=hv
     replace HG:Hid (GR g b z1):=HG.out.growb hg HBC.out.2.2.2.2.1
     replace HPA:Hid (VP A 0 0 0 0 ⟨#[]⟩ ⟨#[]⟩ z1):=HPA.out.grow hg HBC.out.2.2.2.2.2.2.1
     replace HPC:Hid (VP (A+1) 1 x1 0 0 ⟨#[]⟩ ⟨#[]⟩ z1):=HPC.out.grow hg HBC.out.2.2.2.2.2.2.2.1
     replace HW:Hid (w.grownBy z1 (some b)):=gb_trans HW.out hg
     clear hv hg
     have HNR1:Hid (E1=(rdNum l (j0+1)).1/\(E1=0->x2=(rdNum l (j0+1)).2.1/\j1=(rdNum l (j0+1)).2.2/\j1<=s.size)/\(E1 ≠ 0->d1=(rdNum l (j0+1)).2.2)):=⟨hE,hok,herr⟩
     clear hnp hE hok herr g0
     obtain ⟨c0,c1,c2,c3,c4,c5⟩:=HPC.out.cells
     have cf:=HPC.out.f
     have g0:z1.cell? ⟨g,0,none⟩=some (.pointer (some ⟨b,0,none⟩)):=HG.out
     have n4:=HBC.out.2.2.2.1
     by_cases hz1:E1=0
     ·subst hz1
      have HQ1:Hid (j1<=s.size):=(HNR1.out.2.1 rfl).2.2
      have HRr1:Hid (R=pa2 l j1 x1 x2):=by
       show R=_
       have h1:=HNR1.out.1
       obtain ⟨e1,e2,_⟩:=HNR1.out.2.1 rfl
       rw [HRn1.out,if_pos h1.symm,<-e1,<-e2]
      cases hc1:decide (l[j1]?=some 46) with
      | false =>
       have hc':=of_decide_eq_false hc1
       have HZ:Hid (R=(0,j1,⟨2,x1,x2,0,[]⟩)):=by show R=_;rw [HRr1.out];unfold pa2;rw [if_neg hc']
       have CIx:Hid (∀w,GR g b w->VS b s j1 0 d1 w->Calls Tryz.prog 36 #[.pointer (some ⟨g,0,none⟩),.string ⟨#[46]⟩] w fun e w'=>e=.returned (.bool (false))/\∃n,w'=w.drewN n):=fun w h1 h2=>by have:=CI.out j1 d1 w HQ1.out h1 h2;rw [hc1] at this;exact this
       clear hc1 hc'
       go_wp2_with (first | (go_at_call 36;refine (CIx.out _ ((HG.out.other HBC.out.2.2.2.1 _ _).other HBC.out.2.2.2.1 _ _) ((HV.out.other HBC.out.2.1 _ _).other HBC.out.2.1 _ _)).mono ?_))
       rintro e y1 ⟨rfl,n,hn⟩
       replace HV:Hid (VS b s j1 0 d1 y1):=by show VS _ _ _ _ _ y1;rw [hn];exact ((HV.out.other HBC.out.2.1 _ _).other HBC.out.2.1 _ _).drew _
       replace HG:Hid (GR g b y1):=by show GR g b y1;rw [hn];exact (HG.out.other HBC.out.2.2.2.1 _ _).other HBC.out.2.2.2.1 _ _
       replace HPA:Hid (VP A 0 0 0 0 ⟨#[]⟩ ⟨#[]⟩ y1):=by show VP A _ _ _ _ _ _ y1;rw [hn];exact (HPA.out.other HBC.out.2.2.2.2.2.1 _ _).other HBC.out.2.2.2.2.2.1 _ _
       replace HPC:Hid (VP (A+1) 2 x1 x2 0 ⟨#[]⟩ ⟨#[]⟩ y1):=by show VP _ _ _ _ _ _ _ y1;rw [hn];exact (HPC.out.set1 _).setN _
       replace HW:Hid (w.grownBy y1 (some b)):=by show w.grownBy y1 (some b);rw [hn];exact gb_drew (gb_new (gb_new HW.out HBC.out.2.2.2.2.2.2.2.2.2 _ _) HBC.out.2.2.2.2.2.2.2.2.2 _ _) _
       clear hn c0 c1 c2 c3 c4 c5 cf g0 n4
       obtain ⟨a0,a1,a2,a3,a4,a5⟩:=HPA.out.cells
       have af:=HPA.out.f
       obtain ⟨c0,c1,c2,c3,c4,c5⟩:=HPC.out.cells
       have cf:=HPC.out.f
       obtain ⟨n1,n2,n3,n4,n5,n6,n7,n8,n9,n10⟩:=HBC.out
       clear n9 n10
       go_wp2
       have hrow:=putp_row (w:=y1) HPA.out 2 x1 x2 0 ⟨#[]⟩ ⟨#[]⟩
       exact bodyPost_ret (results_cell_row rfl _ _ A _ _ (0,0) _ rfl hrow Tryz.underlying82 rfl (by kernel_rfl)) rfl (by rw [HZ.out];exact ⟨2,x1,x2,0,⟨#[]⟩,⟨#[]⟩,j1,d1,rfl,putp_vs HV.out HBC.out.1 _ _ _ _ _ _,putp_gb HW.out HBC.out.2.2.2.2.2.2.2.2.1 _ _ _ _ _ _,fun _=>⟨rfl,rfl,rfl,rfl,rfl,rfl⟩,fun h=>absurd rfl h⟩)
      | true =>
       have hc':=of_decide_eq_true hc1
       have HRk:Hid (R=if wildAt l (j1+1)=true then (0,j1+1+1,⟨2,x1,x2,0,[]⟩) else if (rdNum l (j1+1)).1=0 then pa3 l (rdNum l (j1+1)).2.2 x1 x2 (rdNum l (j1+1)).2.1 else ((rdNum l (j1+1)).1,(rdNum l (j1+1)).2.2,pa0)):=by show R=_;rw [HRr1.out];unfold pa2;rw [if_pos hc']
       have HJ2:Hid (j1+1<=s.size):=HDL.out _ hc'
       have hwr:IntKind.i64.wrap ((j1:Int)+1)=((j1+1:Nat):Int):=by rw [IntKind.wrap_i64];have:=HJ2.out;have:=HSZ.out;omega
       have CIx:Hid (∀w,GR g b w->VS b s j1 0 d1 w->Calls Tryz.prog 36 #[.pointer (some ⟨g,0,none⟩),.string ⟨#[46]⟩] w fun e w'=>e=.returned (.bool (true))/\∃n,w'=w.drewN n):=fun w h1 h2=>by have:=CI.out j1 d1 w HQ1.out h1 h2;rw [hc1] at this;exact this
       clear hc1 hc'
       go_wp2_with (first | (go_at_call 36;refine (CIx.out _ ((HG.out.other HBC.out.2.2.2.1 _ _).other HBC.out.2.2.2.1 _ _) ((HV.out.other HBC.out.2.1 _ _).other HBC.out.2.1 _ _)).mono ?_))
       rintro e y1 ⟨rfl,n,hn⟩
       replace HV:Hid (VS b s j1 0 d1 y1):=by show VS _ _ _ _ _ y1;rw [hn];exact ((HV.out.other HBC.out.2.1 _ _).other HBC.out.2.1 _ _).drew _
       replace HG:Hid (GR g b y1):=by show GR g b y1;rw [hn];exact (HG.out.other HBC.out.2.2.2.1 _ _).other HBC.out.2.2.2.1 _ _
       replace HPA:Hid (VP A 0 0 0 0 ⟨#[]⟩ ⟨#[]⟩ y1):=by show VP A _ _ _ _ _ _ y1;rw [hn];exact (HPA.out.other HBC.out.2.2.2.2.2.1 _ _).other HBC.out.2.2.2.2.2.1 _ _
       replace HPC:Hid (VP (A+1) 2 x1 x2 0 ⟨#[]⟩ ⟨#[]⟩ y1):=by show VP _ _ _ _ _ _ _ y1;rw [hn];exact (HPC.out.set1 _).setN _
       replace HW:Hid (w.grownBy y1 (some b)):=by show w.grownBy y1 (some b);rw [hn];exact gb_drew (gb_new (gb_new HW.out HBC.out.2.2.2.2.2.2.2.2.2 _ _) HBC.out.2.2.2.2.2.2.2.2.2 _ _) _
       clear hn c0 c1 c2 c3 c4 c5 cf g0 n4
       have b1:=HV.out.c1
       have bf:=HV.out.f1
       have g0:y1.cell? ⟨g,0,none⟩=some (.pointer (some ⟨b,0,none⟩)):=HG.out
       go_wp2_with (fail)
       obtain ⟨q1,hq⟩:∃q,y1.setCell ⟨b,1,none⟩ (.int .i64 ((j1:Int)+1))=q:=⟨_,rfl⟩
       replace HV:Hid (VS b s (j1+1) 0 d1 q1):=by show VS _ _ _ _ _ q1;rw [<-hq,show ((j1:Int)+1)=((j1+1:Nat):Int) by omega];exact HV.out.set1 _
       replace HG:Hid (GR g b q1):=by show GR g b q1;rw [<-hq];exact HG.out.other HBC.out.2.2.2.2.1 _ _
       replace HPA:Hid (VP A 0 0 0 0 ⟨#[]⟩ ⟨#[]⟩ q1):=by show VP A _ _ _ _ _ _ q1;rw [<-hq];exact HPA.out.other HBC.out.2.2.2.2.2.2.1 _ _
       replace HPC:Hid (VP (A+1) 2 x1 x2 0 ⟨#[]⟩ ⟨#[]⟩ q1):=by show VP _ _ _ _ _ _ _ q1;rw [<-hq];exact HPC.out.other HBC.out.2.2.2.2.2.2.2.1 _ _
       replace HW:Hid (w.grownBy q1 (some b)):=by show w.grownBy q1 (some b);rw [<-hq];exact gb_set HW.out _ _
       try rw [hq]
       clear hq b1 bf g0 hwr
       cases hw2:wildAt l (j1+1) with
       | true =>
        have HZ:Hid (R=(0,j1+1+1,⟨2,x1,x2,0,[]⟩)):=by show R=_;rw [HRk.out,if_pos hw2]
        have CW1:Hid (∀w,GR g b w->VS b s (j1+1) 0 d1 w->Calls Tryz.prog 92 #[.pointer (some ⟨g,0,none⟩)] w fun e w'=>e=.returned (.bool true)/\VS b s (j1+1+1) 0 d1 w'/\w.grownBy w' (some b)):=fun w h1 h2=>by have:=CW.out (j1+1) d1 w HJ2.out h1 h2;rw [hw2] at this;exact this
        clear hw2
        refine (CW1.out _ HG.out HV.out).mono ?_
        rintro e v2 ⟨rfl,hv,hg⟩
        replace HV:Hid (VS b s (j1+1+1) 0 d1 v2):=hv
        replace HG:Hid (GR g b v2):=HG.out.growb hg HBC.out.2.2.2.2.1
        replace HPA:Hid (VP A 0 0 0 0 ⟨#[]⟩ ⟨#[]⟩ v2):=HPA.out.grow hg HBC.out.2.2.2.2.2.2.1
        replace HPC:Hid (VP (A+1) 2 x1 x2 0 ⟨#[]⟩ ⟨#[]⟩ v2):=HPC.out.grow hg HBC.out.2.2.2.2.2.2.2.1
        replace HW:Hid (w.grownBy v2 (some b)):=gb_trans HW.out hg
        clear hv hg
        obtain ⟨a0,a1,a2,a3,a4,a5⟩:=HPA.out.cells
        have af:=HPA.out.f
        obtain ⟨c0,c1,c2,c3,c4,c5⟩:=HPC.out.cells
        have cf:=HPC.out.f
        obtain ⟨n1,n2,n3,n4,n5,n6,n7,n8,n9,n10⟩:=HBC.out
        clear n9 n10
        go_wp2
        have hrow:=putp_row (w:=v2) HPA.out 2 x1 x2 0 ⟨#[]⟩ ⟨#[]⟩
        exact bodyPost_ret (results_cell_row rfl _ _ A _ _ (0,0) _ rfl hrow Tryz.underlying82 rfl (by kernel_rfl)) rfl (by rw [HZ.out];exact ⟨2,x1,x2,0,⟨#[]⟩,⟨#[]⟩,j1+1+1,d1,rfl,putp_vs HV.out HBC.out.1 _ _ _ _ _ _,putp_gb HW.out HBC.out.2.2.2.2.2.2.2.2.1 _ _ _ _ _ _,fun _=>⟨rfl,rfl,rfl,rfl,rfl,rfl⟩,fun h=>absurd rfl h⟩)
       | false =>
        have HRn2:Hid (R=if (rdNum l (j1+1)).1=0 then pa3 l (rdNum l (j1+1)).2.2 x1 x2 (rdNum l (j1+1)).2.1 else ((rdNum l (j1+1)).1,(rdNum l (j1+1)).2.2,pa0)):=by show R=_;rw [HRk.out,if_neg (by rw [hw2];decide)]
        have CW1:Hid (∀w,GR g b w->VS b s (j1+1) 0 d1 w->Calls Tryz.prog 92 #[.pointer (some ⟨g,0,none⟩)] w fun e w'=>e=.returned (.bool false)/\VS b s (j1+1) 0 d1 w'/\w.grownBy w' (some b)):=fun w h1 h2=>by have:=CW.out (j1+1) d1 w HJ2.out h1 h2;rw [hw2] at this;exact this
        have CN1:Hid (∀w,VS b s (j1+1) 0 d1 w->Calls Tryz.prog 53 #[.pointer (some ⟨b,0,none⟩)] w (NumPost b s (j1+1) w)):=fun w h=>CN.out (j1+1) d1 w HJ2.out h
        clear hw2 HRk
        refine (CW1.out _ HG.out HV.out).mono ?_
        rintro e v2 ⟨rfl,hv,hg⟩
        replace HV:Hid (VS b s (j1+1) 0 d1 v2):=hv
        replace HG:Hid (GR g b v2):=HG.out.growb hg HBC.out.2.2.2.2.1
        replace HPA:Hid (VP A 0 0 0 0 ⟨#[]⟩ ⟨#[]⟩ v2):=HPA.out.grow hg HBC.out.2.2.2.2.2.2.1
        replace HPC:Hid (VP (A+1) 2 x1 x2 0 ⟨#[]⟩ ⟨#[]⟩ v2):=HPC.out.grow hg HBC.out.2.2.2.2.2.2.2.1
        replace HW:Hid (w.grownBy v2 (some b)):=gb_trans HW.out hg
        clear hv hg
        have g0:v2.cell? ⟨g,0,none⟩=some (.pointer (some ⟨b,0,none⟩)):=HG.out
        go_wp2_with (first | (go_at_call 53;refine (CN1.out _ HV.out).mono ?_))
        intro e z2 hnp
        obtain ⟨x3,j2,E2,d2,rfl,hv,hg,hE,hok,herr⟩:=HNP.out _ _ _ _ hnp
        replace HV:Hid (VS b s (j2) E2 d2 z2):=hv
        replace HG:Hid (GR g b z2):=HG.out.growb hg HBC.out.2.2.2.2.1
        replace HPA:Hid (VP A 0 0 0 0 ⟨#[]⟩ ⟨#[]⟩ z2):=HPA.out.grow hg HBC.out.2.2.2.2.2.2.1
        replace HPC:Hid (VP (A+1) 2 x1 x2 0 ⟨#[]⟩ ⟨#[]⟩ z2):=HPC.out.grow hg HBC.out.2.2.2.2.2.2.2.1
        replace HW:Hid (w.grownBy z2 (some b)):=gb_trans HW.out hg
        clear hv hg
        have HNR2:Hid (E2=(rdNum l (j1+1)).1/\(E2=0->x3=(rdNum l (j1+1)).2.1/\j2=(rdNum l (j1+1)).2.2/\j2<=s.size)/\(E2 ≠ 0->d2=(rdNum l (j1+1)).2.2)):=⟨hE,hok,herr⟩
        clear hnp hE hok herr g0
        obtain ⟨c0,c1,c2,c3,c4,c5⟩:=HPC.out.cells
        have cf:=HPC.out.f
        have g0:z2.cell? ⟨g,0,none⟩=some (.pointer (some ⟨b,0,none⟩)):=HG.out
        have n4:=HBC.out.2.2.2.1
        by_cases hz2:E2=0
        ·subst hz2
         have HQ2:Hid (j2<=s.size):=(HNR2.out.2.1 rfl).2.2
         have HRr2:Hid (R=pa3 l j2 x1 x2 x3):=by
          show R=_
          have h1:=HNR2.out.1
          obtain ⟨e1,e2,_⟩:=HNR2.out.2.1 rfl
          rw [HRn2.out,if_pos h1.symm,<-e1,<-e2]
         have CTx:Hid (∀w,VS b s j2 0 d2 w->VP (A+1) 3 x1 x2 x3 ⟨#[]⟩ ⟨#[]⟩ w->Calls Tryz.prog 55 #[.pointer (some ⟨b,0,none⟩),.pointer (some ⟨A+1,1,none⟩)] w fun e w'=>e=.returned (.tuple #[])/\QTailPost b (A+1) s j2 3 x1 x2 x3 w w'):=fun w h1 h2=>CT.out (A+1) j2 d2 3 x1 x2 x3 w HQ2.out h1 h2 HBC.out.2.1
         go_wp2_with (first | (go_at_call 55;refine (CTx.out _ ((HV.out.other HBC.out.2.1 _ _).other HBC.out.2.1 _ _) ((HPC.out.set2 _).setN _)).mono ?_))
         rintro e y2 ⟨rfl,htp⟩
         obtain ⟨jt,Et,ct,P,Q,hv,hvp,hg2,hE,hok,herr⟩:=HTP.out _ _ _ _ _ _ _ _ htp
         replace HV:Hid (VS b s jt Et ct y2):=hv
         replace HPA:Hid (VP A 0 0 0 0 ⟨#[]⟩ ⟨#[]⟩ y2):=G2.vp ((HPA.out.other HBC.out.2.2.2.2.2.1 _ _).other HBC.out.2.2.2.2.2.1 _ _) hg2 HBC.out.2.2.2.2.2.2.1 HBC.out.2.2.2.2.2.1
         replace HPC:Hid (VP (A+1) 3 x1 x2 x3 P Q y2):=hvp
         replace HW:Hid (w.grownBy y2 (some b)):=G2.gb (gb_new (gb_new HW.out HBC.out.2.2.2.2.2.2.2.2.2 _ _) HBC.out.2.2.2.2.2.2.2.2.2 _ _) HBC.out.2.2.2.2.2.2.2.2.2 hg2
         have HZ:Hid (Et=R.1/\(Et=0->jt=R.2.1/\R.2.2=⟨3,x1,x2,x3,(tailP l j2).2.2.1⟩/\P=⟨(tailP l j2).2.2.1.toArray⟩)/\(¬ Et=0->ct=R.2.1)):=by
          rw [HRr2.out]
          unfold pa3
          by_cases h0:Et=0
          ·obtain ⟨p1,p2,p3,p4⟩:=hok h0
           rw [if_pos (hE.symm.trans h0)]
           exact ⟨h0,fun _=>⟨p3,rfl,p1⟩,fun h=>absurd h0 h⟩
          ·rw [if_neg (fun h=>h0 (hE.trans h))]
           exact ⟨hE,fun h=>absurd h h0,fun _=>herr h0⟩
         clear hv hvp hg2 hE hok herr htp c0 c1 c2 c3 c4 c5 cf g0 n4
         obtain ⟨a0,a1,a2,a3,a4,a5⟩:=HPA.out.cells
         have af:=HPA.out.f
         obtain ⟨c0,c1,c2,c3,c4,c5⟩:=HPC.out.cells
         have cf:=HPC.out.f
         obtain ⟨n1,n2,n3,n4,n5,n6,n7,n8,n9,n10⟩:=HBC.out
         clear n9 n10
         go_wp2
         have hrow:=putp_row (w:=y2) HPA.out 3 x1 x2 x3 P Q
         exact bodyPost_ret (results_cell_row rfl _ _ A _ _ (0,0) _ rfl hrow Tryz.underlying82 rfl (by kernel_rfl)) rfl (by
          refine ⟨3,x1,x2,x3,P,Q,jt,ct,rfl,?_,putp_gb HW.out HBC.out.2.2.2.2.2.2.2.2.1 _ _ _ _ _ _,?_,?_⟩
          ·rw [<-HZ.out.1];exact putp_vs HV.out HBC.out.1 _ _ _ _ _ _
          ·intro h0
           obtain ⟨p1,p2,p3⟩:=HZ.out.2.1 (HZ.out.1.trans h0)
           rw [p2]
           exact ⟨p1,rfl,rfl,rfl,rfl,p3⟩
          ·intro h0
           exact HZ.out.2.2 (fun h=>h0 (HZ.out.1.symm.trans h)))
        ·have HZ:Hid (R=(E2,d2,pa0)):=by
          show R=_
          have h1:=HNR2.out.1
          rw [HRn2.out,if_neg (by rw [<-h1];exact hz2),<-h1,<-HNR2.out.2.2 hz2]
         have HEz:Hid (¬ E2=0):=hz2
         clear hz2
         have CIx:Hid (∀w,VS b s j2 E2 d2 w->Calls Tryz.prog 55 #[.pointer (some ⟨b,0,none⟩),.pointer (some ⟨A+1,1,none⟩)] w fun e w'=>e=.returned (.tuple #[])/\∃n,w'=w.drewN n):=fun w h2=>CTL.out (A+1) j2 E2 d2 w HEz.out h2
         go_wp2_with (first | (go_at_call 55;refine (CIx.out _ ((HV.out.other HBC.out.2.1 _ _).other HBC.out.2.1 _ _)).mono ?_))
         rintro e y2 ⟨rfl,n,hn⟩
         replace HV:Hid (VS b s j2 E2 d2 y2):=by show VS _ _ _ _ _ y2;rw [hn];exact ((HV.out.other HBC.out.2.1 _ _).other HBC.out.2.1 _ _).drew _
         replace HPA:Hid (VP A 0 0 0 0 ⟨#[]⟩ ⟨#[]⟩ y2):=by show VP A _ _ _ _ _ _ y2;rw [hn];exact (HPA.out.other HBC.out.2.2.2.2.2.1 _ _).other HBC.out.2.2.2.2.2.1 _ _
         replace HPC:Hid (VP (A+1) 3 x1 x2 x3 ⟨#[]⟩ ⟨#[]⟩ y2):=by show VP _ _ _ _ _ _ _ y2;rw [hn];exact (HPC.out.set2 _).setN _
         replace HW:Hid (w.grownBy y2 (some b)):=by show w.grownBy y2 (some b);rw [hn];exact gb_drew (gb_new (gb_new HW.out HBC.out.2.2.2.2.2.2.2.2.2 _ _) HBC.out.2.2.2.2.2.2.2.2.2 _ _) _
         clear hn c0 c1 c2 c3 c4 c5 cf g0 n4
         obtain ⟨a0,a1,a2,a3,a4,a5⟩:=HPA.out.cells
         have af:=HPA.out.f
         obtain ⟨c0,c1,c2,c3,c4,c5⟩:=HPC.out.cells
         have cf:=HPC.out.f
         obtain ⟨n1,n2,n3,n4,n5,n6,n7,n8,n9,n10⟩:=HBC.out
         clear n9 n10
         go_wp2
         have hrow:=putp_row (w:=y2) HPA.out 3 x1 x2 x3 ⟨#[]⟩ ⟨#[]⟩
         exact bodyPost_ret (results_cell_row rfl _ _ A _ _ (0,0) _ rfl hrow Tryz.underlying82 rfl (by kernel_rfl)) rfl (by rw [HZ.out];exact ⟨3,x1,x2,x3,⟨#[]⟩,⟨#[]⟩,j2,d2,rfl,putp_vs HV.out HBC.out.1 _ _ _ _ _ _,putp_gb HW.out HBC.out.2.2.2.2.2.2.2.2.1 _ _ _ _ _ _,fun h=>absurd h HEz.out,fun _=>rfl⟩)
     ·have HZ:Hid (R=(E1,d1,pa0)):=by
       show R=_
       have h1:=HNR1.out.1
       rw [HRn1.out,if_neg (by rw [<-h1];exact hz1),<-h1,<-HNR1.out.2.2 hz1]
      have HEz:Hid (¬ E1=0):=hz1
      clear hz1
      have CIx:Hid (∀w,GR g b w->VS b s j1 E1 d1 w->Calls Tryz.prog 36 #[.pointer (some ⟨g,0,none⟩),.string ⟨#[46]⟩] w fun e w'=>e=.returned (.bool (false))/\∃n,w'=w.drewN n):=fun w h1 h2=>CIL.out j1 E1 d1 w HEz.out h1 h2
      go_wp2_with (first | (go_at_call 36;refine (CIx.out _ ((HG.out.other HBC.out.2.2.2.1 _ _).other HBC.out.2.2.2.1 _ _) ((HV.out.other HBC.out.2.1 _ _).other HBC.out.2.1 _ _)).mono ?_))
      rintro e y1 ⟨rfl,n,hn⟩
      replace HV:Hid (VS b s j1 E1 d1 y1):=by show VS _ _ _ _ _ y1;rw [hn];exact ((HV.out.other HBC.out.2.1 _ _).other HBC.out.2.1 _ _).drew _
      replace HPA:Hid (VP A 0 0 0 0 ⟨#[]⟩ ⟨#[]⟩ y1):=by show VP A _ _ _ _ _ _ y1;rw [hn];exact (HPA.out.other HBC.out.2.2.2.2.2.1 _ _).other HBC.out.2.2.2.2.2.1 _ _
      replace HPC:Hid (VP (A+1) 2 x1 x2 0 ⟨#[]⟩ ⟨#[]⟩ y1):=by show VP _ _ _ _ _ _ _ y1;rw [hn];exact (HPC.out.set1 _).setN _
      replace HW:Hid (w.grownBy y1 (some b)):=by show w.grownBy y1 (some b);rw [hn];exact gb_drew (gb_new (gb_new HW.out HBC.out.2.2.2.2.2.2.2.2.2 _ _) HBC.out.2.2.2.2.2.2.2.2.2 _ _) _
      clear hn c0 c1 c2 c3 c4 c5 cf g0 n4
      obtain ⟨a0,a1,a2,a3,a4,a5⟩:=HPA.out.cells
      have af:=HPA.out.f
      obtain ⟨c0,c1,c2,c3,c4,c5⟩:=HPC.out.cells
      have cf:=HPC.out.f
      obtain ⟨n1,n2,n3,n4,n5,n6,n7,n8,n9,n10⟩:=HBC.out
      clear n9 n10
      go_wp2
      have hrow:=putp_row (w:=y1) HPA.out 2 x1 x2 0 ⟨#[]⟩ ⟨#[]⟩
      exact bodyPost_ret (results_cell_row rfl _ _ A _ _ (0,0) _ rfl hrow Tryz.underlying82 rfl (by kernel_rfl)) rfl (by rw [HZ.out];exact ⟨2,x1,x2,0,⟨#[]⟩,⟨#[]⟩,j1,d1,rfl,putp_vs HV.out HBC.out.1 _ _ _ _ _ _,putp_gb HW.out HBC.out.2.2.2.2.2.2.2.2.1 _ _ _ _ _ _,fun h=>absurd h HEz.out,fun _=>rfl⟩)
  ·have HZ:Hid (R=(E0,d0,pa0)):=by
    show R=_
    have h1:=HNR0.out.1
    rw [HRn0.out,if_neg (by rw [<-h1];exact hz0),<-h1,<-HNR0.out.2.2 hz0]
   have HEz:Hid (¬ E0=0):=hz0
   clear hz0
   have CIx:Hid (∀w,GR g b w->VS b s j0 E0 d0 w->Calls Tryz.prog 36 #[.pointer (some ⟨g,0,none⟩),.string ⟨#[46]⟩] w fun e w'=>e=.returned (.bool (false))/\∃n,w'=w.drewN n):=fun w h1 h2=>CIL.out j0 E0 d0 w HEz.out h1 h2
   go_wp2_with (first | (go_at_call 36;refine (CIx.out _ ((HG.out.other HBC.out.2.2.2.1 _ _).other HBC.out.2.2.2.1 _ _) ((HV.out.other HBC.out.2.1 _ _).other HBC.out.2.1 _ _)).mono ?_))
   rintro e y0 ⟨rfl,n,hn⟩
   replace HV:Hid (VS b s j0 E0 d0 y0):=by show VS _ _ _ _ _ y0;rw [hn];exact ((HV.out.other HBC.out.2.1 _ _).other HBC.out.2.1 _ _).drew _
   replace HPA:Hid (VP A 0 0 0 0 ⟨#[]⟩ ⟨#[]⟩ y0):=by show VP A _ _ _ _ _ _ y0;rw [hn];exact (HPA.out.other HBC.out.2.2.2.2.2.1 _ _).other HBC.out.2.2.2.2.2.1 _ _
   replace HPC:Hid (VP (A+1) 1 x1 0 0 ⟨#[]⟩ ⟨#[]⟩ y0):=by show VP _ _ _ _ _ _ _ y0;rw [hn];exact (HPC.out.set0 _).setN _
   replace HW:Hid (w.grownBy y0 (some b)):=by show w.grownBy y0 (some b);rw [hn];exact gb_drew (gb_new (gb_new HW.out HBC.out.2.2.2.2.2.2.2.2.2 _ _) HBC.out.2.2.2.2.2.2.2.2.2 _ _) _
   clear hn c0 c1 c2 c3 c4 c5 cf g0 n4
   obtain ⟨a0,a1,a2,a3,a4,a5⟩:=HPA.out.cells
   have af:=HPA.out.f
   obtain ⟨c0,c1,c2,c3,c4,c5⟩:=HPC.out.cells
   have cf:=HPC.out.f
   obtain ⟨n1,n2,n3,n4,n5,n6,n7,n8,n9,n10⟩:=HBC.out
   clear n9 n10
   go_wp2
   have hrow:=putp_row (w:=y0) HPA.out 1 x1 0 0 ⟨#[]⟩ ⟨#[]⟩
   exact bodyPost_ret (results_cell_row rfl _ _ A _ _ (0,0) _ rfl hrow Tryz.underlying82 rfl (by kernel_rfl)) rfl (by rw [HZ.out];exact ⟨1,x1,0,0,⟨#[]⟩,⟨#[]⟩,j0,d0,rfl,putp_vs HV.out HBC.out.1 _ _ _ _ _ _,putp_gb HW.out HBC.out.2.2.2.2.2.2.2.2.1 _ _ _ _ _ _,fun h=>absurd h HEz.out,fun _=>rfl⟩)
end Go.Proofs.YtonfldbigenfhaaGreatDoor
