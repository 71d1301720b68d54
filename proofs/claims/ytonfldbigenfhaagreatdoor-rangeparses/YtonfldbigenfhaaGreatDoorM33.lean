import Derived.Test.YtonfldbigenfhaaGreatDoorM32
import Derived.Deep.RegionHeld3
namespace Go.Proofs.YtonfldbigenfhaaGreatDoor
open Go.RowKit
set_option linter.unusedVariables false
def dsT (k:Nat):List UInt8:=match k with | 0=>[61] | 1=>[62,61] | 2=>[60,61] | 3=>[62] | 4=>[60] | 5=>[94] | 6=>[126] | _=>[]
def dsA (l:List UInt8) (i k:Nat):Bool:=Lib.hasPrefix (l.drop i) (dsT k)
theorem dsign1 (l:List UInt8) (i:Nat)  (h1:dsA l i 1=true):rdSign l i=(1,i+2):=by
 have g1:(decide (l[i]?=some 62) && decide (l[i+1]?=some 61))=true:=by rw [<-prefix_two];exact h1
 simp only [Bool.and_eq_true,decide_eq_true_eq] at g1
 unfold rdSign
 repeat' split
 all_goals simp_all
theorem dsign2 (l:List UInt8) (i:Nat) (h1:dsA l i 1=false) (h2:dsA l i 2=true):rdSign l i=(2,i+2):=by
 have g1:(decide (l[i]?=some 62) && decide (l[i+1]?=some 61))=false:=by rw [<-prefix_two];exact h1
 have g2:(decide (l[i]?=some 60) && decide (l[i+1]?=some 61))=true:=by rw [<-prefix_two];exact h2
 simp only [Bool.and_eq_true,Bool.and_eq_false_iff,decide_eq_true_eq,decide_eq_false_iff_not] at g1 g2
 unfold rdSign
 repeat' split
 all_goals simp_all
theorem dsign3 (l:List UInt8) (i:Nat) (h1:dsA l i 1=false) (h2:dsA l i 2=false) (h3:dsA l i 3=true):rdSign l i=(3,i+1):=by
 have g1:(decide (l[i]?=some 62) && decide (l[i+1]?=some 61))=false:=by rw [<-prefix_two];exact h1
 have g2:(decide (l[i]?=some 60) && decide (l[i+1]?=some 61))=false:=by rw [<-prefix_two];exact h2
 have g3:decide (l[i]?=some 62)=true:=by rw [<-prefix_one];exact h3
 simp only [Bool.and_eq_false_iff,decide_eq_true_eq,decide_eq_false_iff_not] at g1 g2 g3
 unfold rdSign
 repeat' split
 all_goals simp_all
theorem dsign4 (l:List UInt8) (i:Nat) (h1:dsA l i 1=false) (h2:dsA l i 2=false) (h3:dsA l i 3=false) (h4:dsA l i 4=true):rdSign l i=(4,i+1):=by
 have g1:(decide (l[i]?=some 62) && decide (l[i+1]?=some 61))=false:=by rw [<-prefix_two];exact h1
 have g2:(decide (l[i]?=some 60) && decide (l[i+1]?=some 61))=false:=by rw [<-prefix_two];exact h2
 have g3:decide (l[i]?=some 62)=false:=by rw [<-prefix_one];exact h3
 have g4:decide (l[i]?=some 60)=true:=by rw [<-prefix_one];exact h4
 simp only [Bool.and_eq_false_iff,decide_eq_true_eq,decide_eq_false_iff_not] at g1 g2 g3 g4
 unfold rdSign
 repeat' split
 all_goals simp_all
theorem dsign5 (l:List UInt8) (i:Nat) (h1:dsA l i 1=false) (h2:dsA l i 2=false) (h3:dsA l i 3=false) (h4:dsA l i 4=false) (h5:dsA l i 5=true):rdSign l i=(5,i+1):=by
 have g1:(decide (l[i]?=some 62) && decide (l[i+1]?=some 61))=false:=by rw [<-prefix_two];exact h1
 have g2:(decide (l[i]?=some 60) && decide (l[i+1]?=some 61))=false:=by rw [<-prefix_two];exact h2
 have g3:decide (l[i]?=some 62)=false:=by rw [<-prefix_one];exact h3
 have g4:decide (l[i]?=some 60)=false:=by rw [<-prefix_one];exact h4
 have g5:decide (l[i]?=some 94)=true:=by rw [<-prefix_one];exact h5
 simp only [Bool.and_eq_false_iff,decide_eq_true_eq,decide_eq_false_iff_not] at g1 g2 g3 g4 g5
 unfold rdSign
 repeat' split
 all_goals simp_all
theorem dsign6 (l:List UInt8) (i:Nat) (h1:dsA l i 1=false) (h2:dsA l i 2=false) (h3:dsA l i 3=false) (h4:dsA l i 4=false) (h5:dsA l i 5=false) (h6:dsA l i 6=true):rdSign l i=(6,i+1):=by
 have g1:(decide (l[i]?=some 62) && decide (l[i+1]?=some 61))=false:=by rw [<-prefix_two];exact h1
 have g2:(decide (l[i]?=some 60) && decide (l[i+1]?=some 61))=false:=by rw [<-prefix_two];exact h2
 have g3:decide (l[i]?=some 62)=false:=by rw [<-prefix_one];exact h3
 have g4:decide (l[i]?=some 60)=false:=by rw [<-prefix_one];exact h4
 have g5:decide (l[i]?=some 94)=false:=by rw [<-prefix_one];exact h5
 have g6:decide (l[i]?=some 126)=true:=by rw [<-prefix_one];exact h6
 simp only [Bool.and_eq_false_iff,decide_eq_true_eq,decide_eq_false_iff_not] at g1 g2 g3 g4 g5 g6
 unfold rdSign
 repeat' split
 all_goals simp_all
theorem dsign7 (l:List UInt8) (i:Nat) (h1:dsA l i 1=false) (h2:dsA l i 2=false) (h3:dsA l i 3=false) (h4:dsA l i 4=false) (h5:dsA l i 5=false) (h6:dsA l i 6=false) (h0:dsA l i 0=true):rdSign l i=(0,i+1):=by
 have g1:(decide (l[i]?=some 62) && decide (l[i+1]?=some 61))=false:=by rw [<-prefix_two];exact h1
 have g2:(decide (l[i]?=some 60) && decide (l[i+1]?=some 61))=false:=by rw [<-prefix_two];exact h2
 have g3:decide (l[i]?=some 62)=false:=by rw [<-prefix_one];exact h3
 have g4:decide (l[i]?=some 60)=false:=by rw [<-prefix_one];exact h4
 have g5:decide (l[i]?=some 94)=false:=by rw [<-prefix_one];exact h5
 have g6:decide (l[i]?=some 126)=false:=by rw [<-prefix_one];exact h6
 have g0:decide (l[i]?=some 61)=true:=by rw [<-prefix_one];exact h0
 simp only [Bool.and_eq_false_iff,decide_eq_true_eq,decide_eq_false_iff_not] at g1 g2 g3 g4 g5 g6 g0
 unfold rdSign
 repeat' split
 all_goals simp_all
theorem dsign8 (l:List UInt8) (i:Nat) (h1:dsA l i 1=false) (h2:dsA l i 2=false) (h3:dsA l i 3=false) (h4:dsA l i 4=false) (h5:dsA l i 5=false) (h6:dsA l i 6=false) (h0:dsA l i 0=false):rdSign l i=(-1,i):=by
 have g1:(decide (l[i]?=some 62) && decide (l[i+1]?=some 61))=false:=by rw [<-prefix_two];exact h1
 have g2:(decide (l[i]?=some 60) && decide (l[i+1]?=some 61))=false:=by rw [<-prefix_two];exact h2
 have g3:decide (l[i]?=some 62)=false:=by rw [<-prefix_one];exact h3
 have g4:decide (l[i]?=some 60)=false:=by rw [<-prefix_one];exact h4
 have g5:decide (l[i]?=some 94)=false:=by rw [<-prefix_one];exact h5
 have g6:decide (l[i]?=some 126)=false:=by rw [<-prefix_one];exact h6
 have g0:decide (l[i]?=some 61)=false:=by rw [<-prefix_one];exact h0
 simp only [Bool.and_eq_false_iff,decide_eq_false_iff_not] at g1 g2 g3 g4 g5 g6 g0
 unfold rdSign
 repeat' split
 all_goals simp_all
def dsRow:Array Value:=#[.string ⟨#[61]⟩,.string ⟨#[62,61]⟩,.string ⟨#[60,61]⟩,.string ⟨#[62]⟩,.string ⟨#[60]⟩,.string ⟨#[94]⟩,.string ⟨#[126]⟩]
def DR (D:Nat) (w:World):Prop:=w.heap[D]?=some (.cells dsRow 9 (0,0))
set_option maxRecDepth 100000 in
set_option maxHeartbeats 3200000 in
theorem rsign_any (g b:Nat) (s:ByteArray) (i:Nat) (a:Nat) (w:World) (hi:i<=s.size) (hgb:g ≠ b) (hg:GR g b w) (h:VS b s i 0 a w) (hs:s.size < 2 ^ 60) :
  Calls Tryz.prog 62 #[.pointer (some ⟨g,0,none⟩)] w fun e w'=>e=.returned (.int .i64 (rdSign s.data.toList i).1)/\VS b s (rdSign s.data.toList i).2 0 a w'/\w.grownBy w' (some b):=by
 have CI:Hid (∀(k:Nat) (T:ByteArray) (w:World),T.data.toList=dsT k->T.size < 2 ^ 61->GR g b w->VS b s i 0 a w->Calls Tryz.prog 36 #[.pointer (some ⟨g,0,none⟩),.string T] w fun e w'=>e=.returned (.bool (dsA s.data.toList i k))/\∃n,w'=w.drewN n):=fun k T w hT ht h1 h2=>by
  have:=is_any g b s T i a w hi h1 h2 (by omega) ht
  rw [hT] at this
  exact this
 obtain ⟨l,hl⟩:∃l,s.data.toList=l:=⟨_,rfl⟩
 rw [hl] at CI ⊢
 obtain ⟨sg,j,hsg⟩:∃sg j,rdSign l i=(sg,j):=⟨_,_,rfl⟩
 have HSG:Hid (rdSign l i=(sg,j)):=hsg
 rw [hsg]
 simp only []
 have HG:Hid (GR g b w):=hg
 have HV:Hid (VS b s i 0 a w):=h
 have HB0:Hid (b < w.heap.size/\g < w.heap.size/\g ≠ b):=⟨(Array.getElem?_eq_some_iff.1 h).1,GR.lt hg,hgb⟩
 have HSZ:Hid (i<=s.size/\s.size < 2 ^ 60):=⟨hi,hs⟩
 clear hl hsg h hg hgb hs hi
 go_enter Tryz.func62,Tryz.ntmps62
 go_wp2_with (fail)
 obtain ⟨D,hD⟩:∃D,w.heap.size=D:=⟨_,rfl⟩
 obtain ⟨W,hW⟩:∃W,w.alloc (.cells #[.string ⟨#[61]⟩,.string ⟨#[62,61]⟩,.string ⟨#[60,61]⟩,.string ⟨#[62]⟩,.string ⟨#[60]⟩,.string ⟨#[94]⟩,.string ⟨#[126]⟩] 9)=W:=⟨_,rfl⟩
 have hgW:w.grownBy W none:=by rw [<-hW];exact gb_alloc (gb_refl w none) _
 have HD:Hid (DR D W):=by show W.heap[D]?=_;rw [<-hW,<-hD];exact heap_alloc_new w _
 have HDB:Hid (b ≠ D/\g ≠ D/\D ≠ b):=by have:=HB0.out;refine ⟨?_,?_,?_⟩ <;> omega
 replace HG:Hid (GR g b W):=HG.out.grow hgW
 replace HV:Hid (VS b s i 0 a W):=by show W.heap[b]?=_;rw [hgW.block b HB0.out.1 (by simp)];exact HV.out
 have HW:Hid (w.grownBy W (some b)):=gb_weak hgW _
 try rw [hW]
 try rw [hD]
 clear hgW hW hD
 go_loopw [4] (fun vk wr=>∃k:Nat,vk=.int .i64 k/\1<=k/\k<=8/\(∀m,1<=m->m < k->dsA l i (m % 7)=false)/\VS b s i 0 a wr/\GR g b wr/\DR D wr/\w.grownBy wr (some b)) (fun vk _=>8 - (intOf vk).toNat)
 case atStart=>exact ⟨1,rfl,by omega,by omega,fun m h1 h2=>by omega,HV.out,HG.out,HD.out,HW.out⟩
 case round =>
  obtain ⟨k,rfl,hk1,hk8,hno,hv,hgr,hdr,hgw⟩:=hrel
  clear HV HG HD HW
  have HV:Hid (VS b s i 0 a wr):=hv
  have HG:Hid (GR g b wr):=hgr
  have HD:Hid (DR D wr):=hdr
  have HW:Hid (w.grownBy wr (some b)):=hgw
  have HNO:Hid (∀m,1<=m->m < k->dsA l i (m % 7)=false):=hno
  clear hv hgr hdr hgw hno
  have hkk:k=1\/k=2\/k=3\/k=4\/k=5\/k=6\/k=7\/k=8:=by omega
  clear hk1 hk8
  rcases hkk with rfl | rfl | rfl | rfl | rfl | rfl | rfl | rfl
  ·have d0:wr.cell? ⟨D,1,none⟩=some (.string ⟨#[62,61]⟩):=by rw [Lib.cell_of_heap (show _=_ from HD.out)];rfl
   cases hp:dsA l i 1 with
   | true =>
    have CIk:Hid (∀w,GR g b w->VS b s i 0 a w->Calls Tryz.prog 36 #[.pointer (some ⟨g,0,none⟩),.string ⟨#[62,61]⟩] w fun e w'=>e=.returned (.bool (true))/\∃n,w'=w.drewN n):=fun w h1 h2=>by have:=CI.out 1 ⟨#[62,61]⟩ w rfl (by show 2 < _;decide) h1 h2;rw [hp] at this;exact this
    have HP:Hid (dsA l i 1=true):=hp
    clear hp
    go_wp2_with (first | (go_at_call 36;refine (CIk.out _ HG.out HV.out).mono ?_))
    rintro e u1 ⟨rfl,n,hn⟩
    replace HV:Hid (VS b s i 0 a u1):=by show VS _ _ _ _ _ u1;rw [hn];exact HV.out.drew _
    replace HG:Hid (GR g b u1):=by show GR g b u1;rw [hn];exact HG.out
    replace HD:Hid (DR D u1):=by show DR D u1;rw [hn];exact HD.out
    replace HW:Hid (w.grownBy u1 (some b)):=by show w.grownBy u1 (some b);rw [hn];exact gb_drew HW.out _
    clear hn d0
    have HOUT:Hid (rdSign l i=(1,i+2)):=dsign1 l i  HP.out
    obtain ⟨rfl,rfl⟩:sg=1/\j=i+2:=by have:=HSG.out.symm.trans HOUT.out;simpa using this
    have e0:u1.cell? ⟨g,0,none⟩=some (.pointer (some ⟨b,0,none⟩)):=HG.out
    have e1:=HV.out.c1
    have ef:=HV.out.f1
    have e2:u1.cell? ⟨D,1,none⟩=some (.string ⟨#[62,61]⟩):=by rw [Lib.cell_of_heap (show _=_ from HD.out)];rfl
    have hwr:IntKind.i64.wrap ((i:Int)+2)=(i:Int)+2:=by rw [IntKind.wrap_i64];have:=HSZ.out;omega
    go_wp2_with (fail)
    go_region
    have HVF:Hid (VS b s (i+2) 0 a (u1.setCell ⟨b,1,none⟩ (.int .i64 ((i:Int)+2))).drew):=by show VS b s (i+2) 0 a (u1.setCell ⟨b,1,none⟩ (.int .i64 ((i:Int)+2)));rw [show ((i:Int)+2)=((i+2:Nat):Int) by omega];exact HV.out.set1 _
    have HWF:Hid (w.grownBy (u1.setCell ⟨b,1,none⟩ (.int .i64 ((i:Int)+2))).drew (some b)):=gb_drw (gb_set HW.out _ _)
    clear e0 e1 e2 ef hwr
    go_wp2
    go_ret
    exact ⟨rfl,HVF.out,HWF.out⟩
   | false =>
    have CIk:Hid (∀w,GR g b w->VS b s i 0 a w->Calls Tryz.prog 36 #[.pointer (some ⟨g,0,none⟩),.string ⟨#[62,61]⟩] w fun e w'=>e=.returned (.bool (false))/\∃n,w'=w.drewN n):=fun w h1 h2=>by have:=CI.out 1 ⟨#[62,61]⟩ w rfl (by show 2 < _;decide) h1 h2;rw [hp] at this;exact this
    have HP:Hid (dsA l i 1=false):=hp
    clear hp
    go_wp2_with (first | (go_at_call 36;refine (CIk.out _ HG.out HV.out).mono ?_))
    rintro e u1 ⟨rfl,n,hn⟩
    replace HV:Hid (VS b s i 0 a u1):=by show VS _ _ _ _ _ u1;rw [hn];exact HV.out.drew _
    replace HG:Hid (GR g b u1):=by show GR g b u1;rw [hn];exact HG.out
    replace HD:Hid (DR D u1):=by show DR D u1;rw [hn];exact HD.out
    replace HW:Hid (w.grownBy u1 (some b)):=by show w.grownBy u1 (some b);rw [hn];exact gb_drew HW.out _
    clear hn d0
    go_wp2
    go_roundw
    case rel=>exact ⟨2,rfl,by omega,by omega,fun m h1 h2=>by rcases Nat.lt_succ_iff_lt_or_eq.1 h2 with h | h;exact HNO.out m h1 h;rw [h];exact HP.out,HV.out,HG.out,HD.out,HW.out⟩
    case measure=>simp [intOf]
  ·have d0:wr.cell? ⟨D,2,none⟩=some (.string ⟨#[60,61]⟩):=by rw [Lib.cell_of_heap (show _=_ from HD.out)];rfl
   cases hp:dsA l i 2 with
   | true =>
    have CIk:Hid (∀w,GR g b w->VS b s i 0 a w->Calls Tryz.prog 36 #[.pointer (some ⟨g,0,none⟩),.string ⟨#[60,61]⟩] w fun e w'=>e=.returned (.bool (true))/\∃n,w'=w.drewN n):=fun w h1 h2=>by have:=CI.out 2 ⟨#[60,61]⟩ w rfl (by show 2 < _;decide) h1 h2;rw [hp] at this;exact this
    have HP:Hid (dsA l i 2=true):=hp
    clear hp
    go_wp2_with (first | (go_at_call 36;refine (CIk.out _ HG.out HV.out).mono ?_))
    rintro e u1 ⟨rfl,n,hn⟩
    replace HV:Hid (VS b s i 0 a u1):=by show VS _ _ _ _ _ u1;rw [hn];exact HV.out.drew _
    replace HG:Hid (GR g b u1):=by show GR g b u1;rw [hn];exact HG.out
    replace HD:Hid (DR D u1):=by show DR D u1;rw [hn];exact HD.out
    replace HW:Hid (w.grownBy u1 (some b)):=by show w.grownBy u1 (some b);rw [hn];exact gb_drew HW.out _
    clear hn d0
    have HOUT:Hid (rdSign l i=(2,i+2)):=dsign2 l i (HNO.out 1 (by omega) (by omega)) HP.out
    obtain ⟨rfl,rfl⟩:sg=2/\j=i+2:=by have:=HSG.out.symm.trans HOUT.out;simpa using this
    have e0:u1.cell? ⟨g,0,none⟩=some (.pointer (some ⟨b,0,none⟩)):=HG.out
    have e1:=HV.out.c1
    have ef:=HV.out.f1
    have e2:u1.cell? ⟨D,2,none⟩=some (.string ⟨#[60,61]⟩):=by rw [Lib.cell_of_heap (show _=_ from HD.out)];rfl
    have hwr:IntKind.i64.wrap ((i:Int)+2)=(i:Int)+2:=by rw [IntKind.wrap_i64];have:=HSZ.out;omega
    go_wp2_with (fail)
    go_region
    have HVF:Hid (VS b s (i+2) 0 a (u1.setCell ⟨b,1,none⟩ (.int .i64 ((i:Int)+2))).drew):=by show VS b s (i+2) 0 a (u1.setCell ⟨b,1,none⟩ (.int .i64 ((i:Int)+2)));rw [show ((i:Int)+2)=((i+2:Nat):Int) by omega];exact HV.out.set1 _
    have HWF:Hid (w.grownBy (u1.setCell ⟨b,1,none⟩ (.int .i64 ((i:Int)+2))).drew (some b)):=gb_drw (gb_set HW.out _ _)
    clear e0 e1 e2 ef hwr
    go_wp2
    go_ret
    exact ⟨rfl,HVF.out,HWF.out⟩
   | false =>
    have CIk:Hid (∀w,GR g b w->VS b s i 0 a w->Calls Tryz.prog 36 #[.pointer (some ⟨g,0,none⟩),.string ⟨#[60,61]⟩] w fun e w'=>e=.returned (.bool (false))/\∃n,w'=w.drewN n):=fun w h1 h2=>by have:=CI.out 2 ⟨#[60,61]⟩ w rfl (by show 2 < _;decide) h1 h2;rw [hp] at this;exact this
    have HP:Hid (dsA l i 2=false):=hp
    clear hp
    go_wp2_with (first | (go_at_call 36;refine (CIk.out _ HG.out HV.out).mono ?_))
    rintro e u1 ⟨rfl,n,hn⟩
    replace HV:Hid (VS b s i 0 a u1):=by show VS _ _ _ _ _ u1;rw [hn];exact HV.out.drew _
    replace HG:Hid (GR g b u1):=by show GR g b u1;rw [hn];exact HG.out
    replace HD:Hid (DR D u1):=by show DR D u1;rw [hn];exact HD.out
    replace HW:Hid (w.grownBy u1 (some b)):=by show w.grownBy u1 (some b);rw [hn];exact gb_drew HW.out _
    clear hn d0
    go_wp2
    go_roundw
    case rel=>exact ⟨3,rfl,by omega,by omega,fun m h1 h2=>by rcases Nat.lt_succ_iff_lt_or_eq.1 h2 with h | h;exact HNO.out m h1 h;rw [h];exact HP.out,HV.out,HG.out,HD.out,HW.out⟩
    case measure=>simp [intOf]
  ·have d0:wr.cell? ⟨D,3,none⟩=some (.string ⟨#[62]⟩):=by rw [Lib.cell_of_heap (show _=_ from HD.out)];rfl
   cases hp:dsA l i 3 with
   | true =>
    have CIk:Hid (∀w,GR g b w->VS b s i 0 a w->Calls Tryz.prog 36 #[.pointer (some ⟨g,0,none⟩),.string ⟨#[62]⟩] w fun e w'=>e=.returned (.bool (true))/\∃n,w'=w.drewN n):=fun w h1 h2=>by have:=CI.out 3 ⟨#[62]⟩ w rfl (by show 1 < _;decide) h1 h2;rw [hp] at this;exact this
    have HP:Hid (dsA l i 3=true):=hp
    clear hp
    go_wp2_with (first | (go_at_call 36;refine (CIk.out _ HG.out HV.out).mono ?_))
    rintro e u1 ⟨rfl,n,hn⟩
    replace HV:Hid (VS b s i 0 a u1):=by show VS _ _ _ _ _ u1;rw [hn];exact HV.out.drew _
    replace HG:Hid (GR g b u1):=by show GR g b u1;rw [hn];exact HG.out
    replace HD:Hid (DR D u1):=by show DR D u1;rw [hn];exact HD.out
    replace HW:Hid (w.grownBy u1 (some b)):=by show w.grownBy u1 (some b);rw [hn];exact gb_drew HW.out _
    clear hn d0
    have HOUT:Hid (rdSign l i=(3,i+1)):=dsign3 l i (HNO.out 1 (by omega) (by omega)) (HNO.out 2 (by omega) (by omega)) HP.out
    obtain ⟨rfl,rfl⟩:sg=3/\j=i+1:=by have:=HSG.out.symm.trans HOUT.out;simpa using this
    have e0:u1.cell? ⟨g,0,none⟩=some (.pointer (some ⟨b,0,none⟩)):=HG.out
    have e1:=HV.out.c1
    have ef:=HV.out.f1
    have e2:u1.cell? ⟨D,3,none⟩=some (.string ⟨#[62]⟩):=by rw [Lib.cell_of_heap (show _=_ from HD.out)];rfl
    have hwr:IntKind.i64.wrap ((i:Int)+1)=(i:Int)+1:=by rw [IntKind.wrap_i64];have:=HSZ.out;omega
    go_wp2_with (fail)
    go_region
    have HVF:Hid (VS b s (i+1) 0 a (u1.setCell ⟨b,1,none⟩ (.int .i64 ((i:Int)+1))).drew):=by show VS b s (i+1) 0 a (u1.setCell ⟨b,1,none⟩ (.int .i64 ((i:Int)+1)));rw [show ((i:Int)+1)=((i+1:Nat):Int) by omega];exact HV.out.set1 _
    have HWF:Hid (w.grownBy (u1.setCell ⟨b,1,none⟩ (.int .i64 ((i:Int)+1))).drew (some b)):=gb_drw (gb_set HW.out _ _)
    clear e0 e1 e2 ef hwr
    go_wp2
    go_ret
    exact ⟨rfl,HVF.out,HWF.out⟩
   | false =>
    have CIk:Hid (∀w,GR g b w->VS b s i 0 a w->Calls Tryz.prog 36 #[.pointer (some ⟨g,0,none⟩),.string ⟨#[62]⟩] w fun e w'=>e=.returned (.bool (false))/\∃n,w'=w.drewN n):=fun w h1 h2=>by have:=CI.out 3 ⟨#[62]⟩ w rfl (by show 1 < _;decide) h1 h2;rw [hp] at this;exact this
    have HP:Hid (dsA l i 3=false):=hp
    clear hp
    go_wp2_with (first | (go_at_call 36;refine (CIk.out _ HG.out HV.out).mono ?_))
    rintro e u1 ⟨rfl,n,hn⟩
    replace HV:Hid (VS b s i 0 a u1):=by show VS _ _ _ _ _ u1;rw [hn];exact HV.out.drew _
    replace HG:Hid (GR g b u1):=by show GR g b u1;rw [hn];exact HG.out
    replace HD:Hid (DR D u1):=by show DR D u1;rw [hn];exact HD.out
    replace HW:Hid (w.grownBy u1 (some b)):=by show w.grownBy u1 (some b);rw [hn];exact gb_drew HW.out _
    clear hn d0
    go_wp2
    go_roundw
    case rel=>exact ⟨4,rfl,by omega,by omega,fun m h1 h2=>by rcases Nat.lt_succ_iff_lt_or_eq.1 h2 with h | h;exact HNO.out m h1 h;rw [h];exact HP.out,HV.out,HG.out,HD.out,HW.out⟩
    case measure=>simp [intOf]
  ·have d0:wr.cell? ⟨D,4,none⟩=some (.string ⟨#[60]⟩):=by rw [Lib.cell_of_heap (show _=_ from HD.out)];rfl
   cases hp:dsA l i 4 with
   | true =>
    have CIk:Hid (∀w,GR g b w->VS b s i 0 a w->Calls Tryz.prog 36 #[.pointer (some ⟨g,0,none⟩),.string ⟨#[60]⟩] w fun e w'=>e=.returned (.bool (true))/\∃n,w'=w.drewN n):=fun w h1 h2=>by have:=CI.out 4 ⟨#[60]⟩ w rfl (by show 1 < _;decide) h1 h2;rw [hp] at this;exact this
    have HP:Hid (dsA l i 4=true):=hp
    clear hp
    go_wp2_with (first | (go_at_call 36;refine (CIk.out _ HG.out HV.out).mono ?_))
    rintro e u1 ⟨rfl,n,hn⟩
    replace HV:Hid (VS b s i 0 a u1):=by show VS _ _ _ _ _ u1;rw [hn];exact HV.out.drew _
    replace HG:Hid (GR g b u1):=by show GR g b u1;rw [hn];exact HG.out
    replace HD:Hid (DR D u1):=by show DR D u1;rw [hn];exact HD.out
    replace HW:Hid (w.grownBy u1 (some b)):=by show w.grownBy u1 (some b);rw [hn];exact gb_drew HW.out _
    clear hn d0
    have HOUT:Hid (rdSign l i=(4,i+1)):=dsign4 l i (HNO.out 1 (by omega) (by omega)) (HNO.out 2 (by omega) (by omega)) (HNO.out 3 (by omega) (by omega)) HP.out
    obtain ⟨rfl,rfl⟩:sg=4/\j=i+1:=by have:=HSG.out.symm.trans HOUT.out;simpa using this
    have e0:u1.cell? ⟨g,0,none⟩=some (.pointer (some ⟨b,0,none⟩)):=HG.out
    have e1:=HV.out.c1
    have ef:=HV.out.f1
    have e2:u1.cell? ⟨D,4,none⟩=some (.string ⟨#[60]⟩):=by rw [Lib.cell_of_heap (show _=_ from HD.out)];rfl
    have hwr:IntKind.i64.wrap ((i:Int)+1)=(i:Int)+1:=by rw [IntKind.wrap_i64];have:=HSZ.out;omega
    go_wp2_with (fail)
    go_region
    have HVF:Hid (VS b s (i+1) 0 a (u1.setCell ⟨b,1,none⟩ (.int .i64 ((i:Int)+1))).drew):=by show VS b s (i+1) 0 a (u1.setCell ⟨b,1,none⟩ (.int .i64 ((i:Int)+1)));rw [show ((i:Int)+1)=((i+1:Nat):Int) by omega];exact HV.out.set1 _
    have HWF:Hid (w.grownBy (u1.setCell ⟨b,1,none⟩ (.int .i64 ((i:Int)+1))).drew (some b)):=gb_drw (gb_set HW.out _ _)
    clear e0 e1 e2 ef hwr
    go_wp2
    go_ret
    exact ⟨rfl,HVF.out,HWF.out⟩
   | false =>
    have CIk:Hid (∀w,GR g b w->VS b s i 0 a w->Calls Tryz.prog 36 #[.pointer (some ⟨g,0,none⟩),.string ⟨#[60]⟩] w fun e w'=>e=.returned (.bool (false))/\∃n,w'=w.drewN n):=fun w h1 h2=>by have:=CI.out 4 ⟨#[60]⟩ w rfl (by show 1 < _;decide) h1 h2;rw [hp] at this;exact this
    have HP:Hid (dsA l i 4=false):=hp
    clear hp
    go_wp2_with (first | (go_at_call 36;refine (CIk.out _ HG.out HV.out).mono ?_))
    rintro e u1 ⟨rfl,n,hn⟩
    replace HV:Hid (VS b s i 0 a u1):=by show VS _ _ _ _ _ u1;rw [hn];exact HV.out.drew _
    replace HG:Hid (GR g b u1):=by show GR g b u1;rw [hn];exact HG.out
    replace HD:Hid (DR D u1):=by show DR D u1;rw [hn];exact HD.out
    replace HW:Hid (w.grownBy u1 (some b)):=by show w.grownBy u1 (some b);rw [hn];exact gb_drew HW.out _
    clear hn d0
    go_wp2
    go_roundw
    case rel=>exact ⟨5,rfl,by omega,by omega,fun m h1 h2=>by rcases Nat.lt_succ_iff_lt_or_eq.1 h2 with h | h;exact HNO.out m h1 h;rw [h];exact HP.out,HV.out,HG.out,HD.out,HW.out⟩
    case measure=>simp [intOf]
  ·have d0:wr.cell? ⟨D,5,none⟩=some (.string ⟨#[94]⟩):=by rw [Lib.cell_of_heap (show _=_ from HD.out)];rfl
   cases hp:dsA l i 5 with
   | true =>
    have CIk:Hid (∀w,GR g b w->VS b s i 0 a w->Calls Tryz.prog 36 #[.pointer (some ⟨g,0,none⟩),.string ⟨#[94]⟩] w fun e w'=>e=.returned (.bool (true))/\∃n,w'=w.drewN n):=fun w h1 h2=>by have:=CI.out 5 ⟨#[94]⟩ w rfl (by show 1 < _;decide) h1 h2;rw [hp] at this;exact this
    have HP:Hid (dsA l i 5=true):=hp
    clear hp
    go_wp2_with (first | (go_at_call 36;refine (CIk.out _ HG.out HV.out).mono ?_))
    rintro e u1 ⟨rfl,n,hn⟩
    replace HV:Hid (VS b s i 0 a u1):=by show VS _ _ _ _ _ u1;rw [hn];exact HV.out.drew _
    replace HG:Hid (GR g b u1):=by show GR g b u1;rw [hn];exact HG.out
    replace HD:Hid (DR D u1):=by show DR D u1;rw [hn];exact HD.out
    replace HW:Hid (w.grownBy u1 (some b)):=by show w.grownBy u1 (some b);rw [hn];exact gb_drew HW.out _
    clear hn d0
    have HOUT:Hid (rdSign l i=(5,i+1)):=dsign5 l i (HNO.out 1 (by omega) (by omega)) (HNO.out 2 (by omega) (by omega)) (HNO.out 3 (by omega) (by omega)) (HNO.out 4 (by omega) (by omega)) HP.out
    obtain ⟨rfl,rfl⟩:sg=5/\j=i+1:=by have:=HSG.out.symm.trans HOUT.out;simpa using this
    have e0:u1.cell? ⟨g,0,none⟩=some (.pointer (some ⟨b,0,none⟩)):=HG.out
    have e1:=HV.out.c1
    have ef:=HV.out.f1
    have e2:u1.cell? ⟨D,5,none⟩=some (.string ⟨#[94]⟩):=by rw [Lib.cell_of_heap (show _=_ from HD.out)];rfl
    have hwr:IntKind.i64.wrap ((i:Int)+1)=(i:Int)+1:=by rw [IntKind.wrap_i64];have:=HSZ.out;omega
    go_wp2_with (fail)
    go_region
    have HVF:Hid (VS b s (i+1) 0 a (u1.setCell ⟨b,1,none⟩ (.int .i64 ((i:Int)+1))).drew):=by show VS b s (i+1) 0 a (u1.setCell ⟨b,1,none⟩ (.int .i64 ((i:Int)+1)));rw [show ((i:Int)+1)=((i+1:Nat):Int) by omega];exact HV.out.set1 _
    have HWF:Hid (w.grownBy (u1.setCell ⟨b,1,none⟩ (.int .i64 ((i:Int)+1))).drew (some b)):=gb_drw (gb_set HW.out _ _)
    clear e0 e1 e2 ef hwr
    go_wp2
    go_ret
    exact ⟨rfl,HVF.out,HWF.out⟩
   | false =>
    have CIk:Hid (∀w,GR g b w->VS b s i 0 a w->Calls Tryz.prog 36 #[.pointer (some ⟨g,0,none⟩),.string ⟨#[94]⟩] w fun e w'=>e=.returned (.bool (false))/\∃n,w'=w.drewN n):=fun w h1 h2=>by have:=CI.out 5 ⟨#[94]⟩ w rfl (by show 1 < _;decide) h1 h2;rw [hp] at this;exact this
    have HP:Hid (dsA l i 5=false):=hp
    clear hp
    go_wp2_with (first | (go_at_call 36;refine (CIk.out _ HG.out HV.out).mono ?_))
    rintro e u1 ⟨rfl,n,hn⟩
    replace HV:Hid (VS b s i 0 a u1):=by show VS _ _ _ _ _ u1;rw [hn];exact HV.out.drew _
    replace HG:Hid (GR g b u1):=by show GR g b u1;rw [hn];exact HG.out
    replace HD:Hid (DR D u1):=by show DR D u1;rw [hn];exact HD.out
    replace HW:Hid (w.grownBy u1 (some b)):=by show w.grownBy u1 (some b);rw [hn];exact gb_drew HW.out _
    clear hn d0
    go_wp2
    go_roundw
    case rel=>exact ⟨6,rfl,by omega,by omega,fun m h1 h2=>by rcases Nat.lt_succ_iff_lt_or_eq.1 h2 with h | h;exact HNO.out m h1 h;rw [h];exact HP.out,HV.out,HG.out,HD.out,HW.out⟩
    case measure=>simp [intOf]
  ·have d0:wr.cell? ⟨D,6,none⟩=some (.string ⟨#[126]⟩):=by rw [Lib.cell_of_heap (show _=_ from HD.out)];rfl
   cases hp:dsA l i 6 with
   | true =>
    have CIk:Hid (∀w,GR g b w->VS b s i 0 a w->Calls Tryz.prog 36 #[.pointer (some ⟨g,0,none⟩),.string ⟨#[126]⟩] w fun e w'=>e=.returned (.bool (true))/\∃n,w'=w.drewN n):=fun w h1 h2=>by have:=CI.out 6 ⟨#[126]⟩ w rfl (by show 1 < _;decide) h1 h2;rw [hp] at this;exact this
    have HP:Hid (dsA l i 6=true):=hp
    clear hp
    go_wp2_with (first | (go_at_call 36;refine (CIk.out _ HG.out HV.out).mono ?_))
    rintro e u1 ⟨rfl,n,hn⟩
    replace HV:Hid (VS b s i 0 a u1):=by show VS _ _ _ _ _ u1;rw [hn];exact HV.out.drew _
    replace HG:Hid (GR g b u1):=by show GR g b u1;rw [hn];exact HG.out
    replace HD:Hid (DR D u1):=by show DR D u1;rw [hn];exact HD.out
    replace HW:Hid (w.grownBy u1 (some b)):=by show w.grownBy u1 (some b);rw [hn];exact gb_drew HW.out _
    clear hn d0
    have HOUT:Hid (rdSign l i=(6,i+1)):=dsign6 l i (HNO.out 1 (by omega) (by omega)) (HNO.out 2 (by omega) (by omega)) (HNO.out 3 (by omega) (by omega)) (HNO.out 4 (by omega) (by omega)) (HNO.out 5 (by omega) (by omega)) HP.out
    obtain ⟨rfl,rfl⟩:sg=6/\j=i+1:=by have:=HSG.out.symm.trans HOUT.out;simpa using this
    have e0:u1.cell? ⟨g,0,none⟩=some (.pointer (some ⟨b,0,none⟩)):=HG.out
    have e1:=HV.out.c1
    have ef:=HV.out.f1
    have e2:u1.cell? ⟨D,6,none⟩=some (.string ⟨#[126]⟩):=by rw [Lib.cell_of_heap (show _=_ from HD.out)];rfl
    have hwr:IntKind.i64.wrap ((i:Int)+1)=(i:Int)+1:=by rw [IntKind.wrap_i64];have:=HSZ.out;omega
    go_wp2_with (fail)
    go_region
    have HVF:Hid (VS b s (i+1) 0 a (u1.setCell ⟨b,1,none⟩ (.int .i64 ((i:Int)+1))).drew):=by show VS b s (i+1) 0 a (u1.setCell ⟨b,1,none⟩ (.int .i64 ((i:Int)+1)));rw [show ((i:Int)+1)=((i+1:Nat):Int) by omega];exact HV.out.set1 _
    have HWF:Hid (w.grownBy (u1.setCell ⟨b,1,none⟩ (.int .i64 ((i:Int)+1))).drew (some b)):=gb_drw (gb_set HW.out _ _)
    clear e0 e1 e2 ef hwr
    go_wp2
    go_ret
    exact ⟨rfl,HVF.out,HWF.out⟩
   | false =>
    have CIk:Hid (∀w,GR g b w->VS b s i 0 a w->Calls Tryz.prog 36 #[.pointer (some ⟨g,0,none⟩),.string ⟨#[126]⟩] w fun e w'=>e=.returned (.bool (false))/\∃n,w'=w.drewN n):=fun w h1 h2=>by have:=CI.out 6 ⟨#[126]⟩ w rfl (by show 1 < _;decide) h1 h2;rw [hp] at this;exact this
    have HP:Hid (dsA l i 6=false):=hp
    clear hp
    go_wp2_with (first | (go_at_call 36;refine (CIk.out _ HG.out HV.out).mono ?_))
    rintro e u1 ⟨rfl,n,hn⟩
    replace HV:Hid (VS b s i 0 a u1):=by show VS _ _ _ _ _ u1;rw [hn];exact HV.out.drew _
    replace HG:Hid (GR g b u1):=by show GR g b u1;rw [hn];exact HG.out
    replace HD:Hid (DR D u1):=by show DR D u1;rw [hn];exact HD.out
    replace HW:Hid (w.grownBy u1 (some b)):=by show w.grownBy u1 (some b);rw [hn];exact gb_drew HW.out _
    clear hn d0
    go_wp2
    go_roundw
    case rel=>exact ⟨7,rfl,by omega,by omega,fun m h1 h2=>by rcases Nat.lt_succ_iff_lt_or_eq.1 h2 with h | h;exact HNO.out m h1 h;rw [h];exact HP.out,HV.out,HG.out,HD.out,HW.out⟩
    case measure=>simp [intOf]
  ·have d0:wr.cell? ⟨D,0,none⟩=some (.string ⟨#[61]⟩):=by rw [Lib.cell_of_heap (show _=_ from HD.out)];rfl
   cases hp:dsA l i 0 with
   | true =>
    have CIk:Hid (∀w,GR g b w->VS b s i 0 a w->Calls Tryz.prog 36 #[.pointer (some ⟨g,0,none⟩),.string ⟨#[61]⟩] w fun e w'=>e=.returned (.bool (true))/\∃n,w'=w.drewN n):=fun w h1 h2=>by have:=CI.out 0 ⟨#[61]⟩ w rfl (by show 1 < _;decide) h1 h2;rw [hp] at this;exact this
    have HP:Hid (dsA l i 0=true):=hp
    clear hp
    go_wp2_with (first | (go_at_call 36;refine (CIk.out _ HG.out HV.out).mono ?_))
    rintro e u1 ⟨rfl,n,hn⟩
    replace HV:Hid (VS b s i 0 a u1):=by show VS _ _ _ _ _ u1;rw [hn];exact HV.out.drew _
    replace HG:Hid (GR g b u1):=by show GR g b u1;rw [hn];exact HG.out
    replace HD:Hid (DR D u1):=by show DR D u1;rw [hn];exact HD.out
    replace HW:Hid (w.grownBy u1 (some b)):=by show w.grownBy u1 (some b);rw [hn];exact gb_drew HW.out _
    clear hn d0
    have HOUT:Hid (rdSign l i=(0,i+1)):=dsign7 l i (HNO.out 1 (by omega) (by omega)) (HNO.out 2 (by omega) (by omega)) (HNO.out 3 (by omega) (by omega)) (HNO.out 4 (by omega) (by omega)) (HNO.out 5 (by omega) (by omega)) (HNO.out 6 (by omega) (by omega)) HP.out
    obtain ⟨rfl,rfl⟩:sg=0/\j=i+1:=by have:=HSG.out.symm.trans HOUT.out;simpa using this
    have e0:u1.cell? ⟨g,0,none⟩=some (.pointer (some ⟨b,0,none⟩)):=HG.out
    have e1:=HV.out.c1
    have ef:=HV.out.f1
    have e2:u1.cell? ⟨D,0,none⟩=some (.string ⟨#[61]⟩):=by rw [Lib.cell_of_heap (show _=_ from HD.out)];rfl
    have hwr:IntKind.i64.wrap ((i:Int)+1)=(i:Int)+1:=by rw [IntKind.wrap_i64];have:=HSZ.out;omega
    go_wp2_with (fail)
    go_region
    have HVF:Hid (VS b s (i+1) 0 a (u1.setCell ⟨b,1,none⟩ (.int .i64 ((i:Int)+1))).drew):=by show VS b s (i+1) 0 a (u1.setCell ⟨b,1,none⟩ (.int .i64 ((i:Int)+1)));rw [show ((i:Int)+1)=((i+1:Nat):Int) by omega];exact HV.out.set1 _
    have HWF:Hid (w.grownBy (u1.setCell ⟨b,1,none⟩ (.int .i64 ((i:Int)+1))).drew (some b)):=gb_drw (gb_set HW.out _ _)
    clear e0 e1 e2 ef hwr
    go_wp2
    go_ret
    exact ⟨rfl,HVF.out,HWF.out⟩
   | false =>
    have CIk:Hid (∀w,GR g b w->VS b s i 0 a w->Calls Tryz.prog 36 #[.pointer (some ⟨g,0,none⟩),.string ⟨#[61]⟩] w fun e w'=>e=.returned (.bool (false))/\∃n,w'=w.drewN n):=fun w h1 h2=>by have:=CI.out 0 ⟨#[61]⟩ w rfl (by show 1 < _;decide) h1 h2;rw [hp] at this;exact this
    have HP:Hid (dsA l i 0=false):=hp
    clear hp
    go_wp2_with (first | (go_at_call 36;refine (CIk.out _ HG.out HV.out).mono ?_))
    rintro e u1 ⟨rfl,n,hn⟩
    replace HV:Hid (VS b s i 0 a u1):=by show VS _ _ _ _ _ u1;rw [hn];exact HV.out.drew _
    replace HG:Hid (GR g b u1):=by show GR g b u1;rw [hn];exact HG.out
    replace HD:Hid (DR D u1):=by show DR D u1;rw [hn];exact HD.out
    replace HW:Hid (w.grownBy u1 (some b)):=by show w.grownBy u1 (some b);rw [hn];exact gb_drew HW.out _
    clear hn d0
    go_wp2
    go_roundw
    case rel=>exact ⟨8,rfl,by omega,by omega,fun m h1 h2=>by rcases Nat.lt_succ_iff_lt_or_eq.1 h2 with h | h;exact HNO.out m h1 h;rw [h];exact HP.out,HV.out,HG.out,HD.out,HW.out⟩
    case measure=>simp [intOf]
  ·have HOUT:Hid (rdSign l i=(-1,i)):=dsign8 l i (HNO.out 1 (by omega) (by omega)) (HNO.out 2 (by omega) (by omega)) (HNO.out 3 (by omega) (by omega)) (HNO.out 4 (by omega) (by omega)) (HNO.out 5 (by omega) (by omega)) (HNO.out 6 (by omega) (by omega)) (HNO.out 7 (by omega) (by omega))
   obtain ⟨rfl,rfl⟩:sg=-1/\j=i:=by have:=HSG.out.symm.trans HOUT.out;simpa using this
   go_wp2
   go_ret
   exact ⟨rfl,HV.out,HW.out⟩
end Go.Proofs.YtonfldbigenfhaaGreatDoor
