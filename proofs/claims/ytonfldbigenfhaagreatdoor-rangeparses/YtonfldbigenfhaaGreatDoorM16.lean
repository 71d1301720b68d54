import Derived.Test.YtonfldbigenfhaaGreatDoorM04
import Derived.Test.YtonfldbigenfhaaGreatDoorM15
import Derived.Deep.RegionHeld3
import Derived.Below
namespace Go.Proofs.YtonfldbigenfhaaGreatDoor
open Go.RowKit
set_option linter.unusedVariables false
theorem isSp_any (c:UInt8) (w:World):Calls Tryz.prog 91 #[.int .u8 (c.toNat:Int)] w fun e w'=>e=.returned (.bool (isSp c))/\w'=w:=by
 go_enter Tryz.func91,Tryz.ntmps91
 go_wp2
 all_goals go_ret
 all_goals (refine ⟨ret_bool ?_,rfl⟩;rw [Bool.eq_iff_iff];unfold isSp;simp [<-UInt8.toNat_inj];try omega)
set_option maxHeartbeats 800000 in
theorem run_sp (b:Nat) (s:ByteArray) (i:Nat) (w:World) (hi:i<=s.size) (h:RS b s i w) (hs:s.size < 2 ^ 62) :
  Calls Tryz.prog 90 #[.pointer (some ⟨b,0,none⟩),.func (.func 91) #[] #[]] w fun e w'=>e=.returned (.string ⟨(subT s.data.toList i (runN isSp s.data.toList i)).toArray⟩)/\RS b s (i+runN isSp s.data.toList i) w'/\w.grownBy w' (some b):=by
 have h0:=h.c0
 have h1:=h.c1
 have HR:Hid (RS b s i w):=h
 obtain ⟨N,hN⟩:∃N,i+runN isSp s.data.toList i=N:=⟨_,rfl⟩
 have HN:Hid (N<=s.size):=by
  show N<=s.size
  have:=runN_le isSp s.data.toList i (by simpa using hi)
  simp at this;omega
 have HA:Hid (∀j,i<=j->(hj:j < s.size)->j < N->isSp s[j]=true):=by
  show ∀j,i<=j->(hj:j < s.size)->j < N->isSp s[j]=true
  intro j h1 hj h2
  obtain ⟨g1,g2⟩:=runN_at isSp s.data.toList i (j - i) (by omega)
  have e:i+(j - i)=j:=by omega
  simp only [e] at g2
  exact g2
 have HS:Hid (∀hj:N < s.size,isSp s[N]=false):=by
  show ∀hj:N < s.size,isSp s[N]=false
  intro hj
  have:=runN_stop isSp s.data.toList i (by rw [hN];simpa using hj)
  simp only [hN] at this
  exact this
 have HT:Hid (runN isSp s.data.toList i=N - i/\i<=N):=⟨by omega,by omega⟩
 have HI:Hid (i<=s.size):=hi
 rw [show runN isSp s.data.toList i=N - i by omega]
 obtain ⟨X,hX⟩:∃X:List UInt8,X=subT s.data.toList i (N - i):=⟨_,rfl⟩
 have hsl:∀wx,(Instr.slice 9 (.string s) (some (.int .i64 (i:Int))) (some (.int .i64 (N:Int))) none).run Tryz.prog wx=.ok (.string ⟨X.toArray⟩) wx:=fun wx=>by rw [hX];exact run_sub s i N (by omega) HN.out wx
 rw [<-hX,show i+(N - i)=N by omega]
 clear h hN hi hX
 go_enter Tryz.func90,Tryz.ntmps90
 go_wp2
 go_loopw [] (fun wr=>∃j:Nat,i<=j/\j<=N/\RS b s j wr/\w.grownBy wr (some b)) (fun wr=>s.size - placeOf b wr)
 case atStart=>exact ⟨i,Nat.le_refl _,HT.out.2,HR.out,gb_refl _ _⟩
 case round =>
  obtain ⟨j,hij,hjn,hrs,hgb⟩:=hrel
  have d0:=hrs.c0
  have d1:=hrs.c1
  have df:=hrs.f1
  have HRS:Hid (RS b s j wr):=hrs
  have HGB:Hid (w.grownBy wr (some b)):=hgb
  have hns:=HN.out
  clear hrs hgb h0 h1
  by_cases hlt:j < N
  ·have hjs:j < s.size:=by omega
   have hD:isSp s[j]=true:=HA.out j hij hjs hlt
   have HK:Hid (i<=j/\j < N):=⟨hij,hlt⟩
   clear hlt hjn hns hij
   have hlt2:(j:Int) < (s.size:Int):=by omega
   go_wp2
   go_quiet (first | (go_at_call 91;exact Calls.quiet_of_same (isSp_any _ _)))
   go_wp2
   go_roundw
   case rel =>
    have:=HK.out
    exact ⟨j+1,by omega,by omega,(HRS.out.drew _).set (j+1),gb_set (gb_drew HGB.out _) _ _⟩
   case measure =>
    have e1:=HRS.out.place
    have e2:=((HRS.out.drew nq).set (j+1)).place
    rw [e1]
    exact Nat.lt_of_le_of_lt (Nat.le_of_eq (congrArg (s.size - ·) e2)) (by omega)
  ·have hjN:j=N:=by omega
   subst hjN
   by_cases hjs:j < s.size
   ·have hD:isSp s[j]=false:=HS.out hjs
    have hlt2:(j:Int) < (s.size:Int):=by omega
    clear hlt hjn hns hij
    go_wp2
    go_quiet (first | (go_at_call 91;exact Calls.quiet_of_same (isSp_any _ _)))
    go_wp2
    obtain ⟨W,hW⟩:∃W,wr.drewN nq=W:=⟨_,rfl⟩
    have e0:W.cell? ⟨b,0,none⟩=some (.string s):=by rw [<-hW];exact d0
    have e1:W.cell? ⟨b,1,none⟩=some (.int .i64 (j:Int)):=by rw [<-hW];exact d1
    have HW:Hid (RS b s j W/\w.grownBy W (some b)):=by
     show RS b s j W/\w.grownBy W (some b)
     rw [<-hW];exact ⟨HRS.out.drew _,gb_drew HGB.out _⟩
    rw [hW]
    clear hW d0 d1 df HRS HGB
    go_quiet (fail)
    go_wp2
    go_ret
    exact ⟨rfl,HW.out.1.drew _,gb_drew HW.out.2 _⟩
   ·have hd2:decide ((j:Int) < (s.size:Int))=false:=by simp;omega
    clear hlt hjn hns hij
    go_wp2
    go_quiet (fail)
    go_wp2
    obtain ⟨W,hW⟩:∃W,wr.drewN nq=W:=⟨_,rfl⟩
    have e0:W.cell? ⟨b,0,none⟩=some (.string s):=by rw [<-hW];exact d0
    have e1:W.cell? ⟨b,1,none⟩=some (.int .i64 (j:Int)):=by rw [<-hW];exact d1
    have HW:Hid (RS b s j W/\w.grownBy W (some b)):=by
     show RS b s j W/\w.grownBy W (some b)
     rw [<-hW];exact ⟨HRS.out.drew _,gb_drew HGB.out _⟩
    rw [hW]
    clear hW d0 d1 df HRS HGB
    go_quiet (fail)
    go_wp2
    go_ret
    exact ⟨rfl,HW.out.1.drew _,gb_drew HW.out.2 _⟩
theorem wild0 {l:List UInt8} {i:Nat} (h:l[i]?=some 42):wildAt l i=true:=by unfold wildAt;rw [decide_eq_true h];rfl
theorem wild1 {l:List UInt8} {i:Nat} (h:l[i]?=some 120):wildAt l i=true:=by unfold wildAt;rw [h];rfl
theorem wild2 {l:List UInt8} {i:Nat} (h:l[i]?=some 88):wildAt l i=true:=by unfold wildAt;rw [h];rfl
theorem wild3 {l:List UInt8} {i:Nat} (h0:¬ l[i]?=some 42) (h1:¬ l[i]?=some 120) (h2:¬ l[i]?=some 88):wildAt l i=false:=by unfold wildAt;rw [decide_eq_false h0,decide_eq_false h1,decide_eq_false h2];rfl
set_option maxHeartbeats 400000 in
theorem blanks_any (b:Nat) (s:ByteArray) (i:Nat) (w:World) (hi:i<=s.size) (h:RS b s i w) (hs:s.size < 2 ^ 62) :
  Calls Tryz.prog 58 #[.pointer (some ⟨b,0,none⟩)] w fun e w'=>e=.returned (.bool (decide (i < skipW s.data.toList i)))/\RS b s (skipW s.data.toList i) w'/\w.grownBy w' (some b):=by
 have CR:Hid (Calls Tryz.prog 90 #[.pointer (some ⟨b,0,none⟩),.func (.func 91) #[] #[]] w fun e w'=>e=.returned (.string ⟨(subT s.data.toList i (runN isSp s.data.toList i)).toArray⟩)/\RS b s (i+runN isSp s.data.toList i) w'/\w.grownBy w' (some b)):=run_sp b s i w hi h hs
 have hsl:s.data.toList.length=s.size:=by simp
 have hle:i+runN isSp s.data.toList i<=s.size:=by have:=runN_le isSp s.data.toList i (by rw [hsl];exact hi);rw [hsl] at this;exact this
 have hln:=sub_len s.data.toList i (runN isSp s.data.toList i) (by rw [hsl];exact hle)
 unfold skipW
 obtain ⟨k,hk⟩:∃k,runN isSp s.data.toList i=k:=⟨_,rfl⟩
 rw [hk] at CR hln ⊢
 obtain ⟨X,hX⟩:∃X:ByteArray,X=⟨(subT s.data.toList i k).toArray⟩:=⟨_,rfl⟩
 rw [<-hX] at CR
 have hXs:X.size=k:=by rw [hX];show (subT s.data.toList i k).toArray.size=k;simpa using hln
 clear hk hX hln hsl hle h hi
 by_cases hk0:k=0
 ·have e1:=emp_t2 (hXs.trans hk0)
  have HZ:Hid (decide (i < i+k)=false):=by show _=_;rw [hk0];simp
  clear hk0 hXs
  go_enter Tryz.func58,Tryz.ntmps58
  go_wp2_with (go_at_call 90;refine CR.out.mono ?_)
  rintro e w1 ⟨rfl,hr1,hg1⟩
  have HF:Hid (RS b s (i+k) w1/\w.grownBy w1 (some b)):=⟨hr1,hg1⟩
  clear hr1 hg1
  go_wp2
  go_ret
  exact ⟨ret_bool HZ.out.symm,HF.out.1,HF.out.2⟩
 ·have e1:=emp_f2 (fun h=>hk0 (hXs.symm.trans h))
  have HZ:Hid (decide (i < i+k)=true):=by show _=_;simp;omega
  clear hk0 hXs
  go_enter Tryz.func58,Tryz.ntmps58
  go_wp2_with (go_at_call 90;refine CR.out.mono ?_)
  rintro e w1 ⟨rfl,hr1,hg1⟩
  have HF:Hid (RS b s (i+k) w1/\w.grownBy w1 (some b)):=⟨hr1,hg1⟩
  clear hr1 hg1
  go_wp2
  go_ret
  exact ⟨ret_bool HZ.out.symm,HF.out.1,HF.out.2⟩
set_option maxHeartbeats 400000 in
theorem wild_any (b:Nat) (s:ByteArray) (i:Nat) (w:World) (hi:i<=s.size) (h:RS b s i w) (hs:s.size < 2 ^ 62) :
  Calls Tryz.prog 133 #[.pointer (some ⟨b,0,none⟩)] w fun e w'=>e=.returned (.bool (wildAt s.data.toList i))/\RS b s (if wildAt s.data.toList i=true then i+1 else i) w'/\w.grownBy w' (some b):=by
 by_cases q0:s.data.toList[i]?=some 42
 ·have C0:Hid (∀w,RS b s i w->Calls Tryz.prog 60 #[.pointer (some ⟨b,0,none⟩),.string ⟨#[42]⟩] w fun e w'=>e=.returned (.bool true)/\RS b s (i+1) w'/\w.grownBy w' (some b)):=fun w h=>take_yes b s i 42 w q0 h hs
  have HZ:Hid (wildAt s.data.toList i=true):=wild0 q0
  rw [HZ.out]
  have HR:Hid (RS b s i w):=h
  have HG:Hid (w.grownBy w (some b)):=gb_refl _ _
  clear h hi hs q0
  go_enter Tryz.func133,Tryz.ntmps133
  go_wp2_with (first | (go_at_call 60;refine (C0.out _ HR.out).mono ?_))
  rintro e w1 ⟨rfl,hr,hg⟩
  replace HR:Hid (RS b s (i+1) w1):=hr
  replace HG:Hid (w.grownBy w1 (some b)):=gb_trans HG.out hg
  clear hr hg
  go_wp2
  go_ret
  exact ⟨rfl,HR.out,HG.out⟩
 ·by_cases q1:s.data.toList[i]?=some 120
  ·have C0:Hid (∀w,RS b s i w->Calls Tryz.prog 60 #[.pointer (some ⟨b,0,none⟩),.string ⟨#[42]⟩] w fun e w'=>e=.returned (.bool false)/\RS b s (i) w'/\w.grownBy w' (some b)):=fun w h=>take_no b s i 42 w hi q0 h hs
   have C1:Hid (∀w,RS b s i w->Calls Tryz.prog 60 #[.pointer (some ⟨b,0,none⟩),.string ⟨#[120]⟩] w fun e w'=>e=.returned (.bool true)/\RS b s (i+1) w'/\w.grownBy w' (some b)):=fun w h=>take_yes b s i 120 w q1 h hs
   have HZ:Hid (wildAt s.data.toList i=true):=wild1 q1
   rw [HZ.out]
   have HR:Hid (RS b s i w):=h
   have HG:Hid (w.grownBy w (some b)):=gb_refl _ _
   clear h hi hs q0 q1
   go_enter Tryz.func133,Tryz.ntmps133
   go_wp2_with (first | (go_at_call 60;refine (C0.out _ HR.out).mono ?_))
   rintro e w1 ⟨rfl,hr,hg⟩
   replace HR:Hid (RS b s (i) w1):=hr
   replace HG:Hid (w.grownBy w1 (some b)):=gb_trans HG.out hg
   clear hr hg
   go_wp2_with (first | (go_at_call 60;refine (C1.out _ HR.out).mono ?_))
   rintro e w2 ⟨rfl,hr,hg⟩
   replace HR:Hid (RS b s (i+1) w2):=hr
   replace HG:Hid (w.grownBy w2 (some b)):=gb_trans HG.out hg
   clear hr hg
   go_wp2
   go_ret
   exact ⟨rfl,HR.out,HG.out⟩
  ·by_cases q2:s.data.toList[i]?=some 88
   ·have C0:Hid (∀w,RS b s i w->Calls Tryz.prog 60 #[.pointer (some ⟨b,0,none⟩),.string ⟨#[42]⟩] w fun e w'=>e=.returned (.bool false)/\RS b s (i) w'/\w.grownBy w' (some b)):=fun w h=>take_no b s i 42 w hi q0 h hs
    have C1:Hid (∀w,RS b s i w->Calls Tryz.prog 60 #[.pointer (some ⟨b,0,none⟩),.string ⟨#[120]⟩] w fun e w'=>e=.returned (.bool false)/\RS b s (i) w'/\w.grownBy w' (some b)):=fun w h=>take_no b s i 120 w hi q1 h hs
    have C2:Hid (∀w,RS b s i w->Calls Tryz.prog 60 #[.pointer (some ⟨b,0,none⟩),.string ⟨#[88]⟩] w fun e w'=>e=.returned (.bool true)/\RS b s (i+1) w'/\w.grownBy w' (some b)):=fun w h=>take_yes b s i 88 w q2 h hs
    have HZ:Hid (wildAt s.data.toList i=true):=wild2 q2
    rw [HZ.out]
    have HR:Hid (RS b s i w):=h
    have HG:Hid (w.grownBy w (some b)):=gb_refl _ _
    clear h hi hs q0 q1 q2
    go_enter Tryz.func133,Tryz.ntmps133
    go_wp2_with (first | (go_at_call 60;refine (C0.out _ HR.out).mono ?_))
    rintro e w1 ⟨rfl,hr,hg⟩
    replace HR:Hid (RS b s (i) w1):=hr
    replace HG:Hid (w.grownBy w1 (some b)):=gb_trans HG.out hg
    clear hr hg
    go_wp2_with (first | (go_at_call 60;refine (C1.out _ HR.out).mono ?_))
    rintro e w2 ⟨rfl,hr,hg⟩
    replace HR:Hid (RS b s (i) w2):=hr
    replace HG:Hid (w.grownBy w2 (some b)):=gb_trans HG.out hg
    clear hr hg
    go_wp2_with (first | (go_at_call 60;refine (C2.out _ HR.out).mono ?_))
    rintro e w3 ⟨rfl,hr,hg⟩
    replace HR:Hid (RS b s (i+1) w3):=hr
    replace HG:Hid (w.grownBy w3 (some b)):=gb_trans HG.out hg
    clear hr hg
    go_wp2
    go_ret
    exact ⟨rfl,HR.out,HG.out⟩
   ·have C0:Hid (∀w,RS b s i w->Calls Tryz.prog 60 #[.pointer (some ⟨b,0,none⟩),.string ⟨#[42]⟩] w fun e w'=>e=.returned (.bool false)/\RS b s (i) w'/\w.grownBy w' (some b)):=fun w h=>take_no b s i 42 w hi q0 h hs
    have C1:Hid (∀w,RS b s i w->Calls Tryz.prog 60 #[.pointer (some ⟨b,0,none⟩),.string ⟨#[120]⟩] w fun e w'=>e=.returned (.bool false)/\RS b s (i) w'/\w.grownBy w' (some b)):=fun w h=>take_no b s i 120 w hi q1 h hs
    have C2:Hid (∀w,RS b s i w->Calls Tryz.prog 60 #[.pointer (some ⟨b,0,none⟩),.string ⟨#[88]⟩] w fun e w'=>e=.returned (.bool false)/\RS b s (i) w'/\w.grownBy w' (some b)):=fun w h=>take_no b s i 88 w hi q2 h hs
    have HZ:Hid (wildAt s.data.toList i=false):=wild3 q0 q1 q2
    rw [HZ.out]
    have HR:Hid (RS b s i w):=h
    have HG:Hid (w.grownBy w (some b)):=gb_refl _ _
    clear h hi hs q0 q1 q2
    go_enter Tryz.func133,Tryz.ntmps133
    go_wp2_with (first | (go_at_call 60;refine (C0.out _ HR.out).mono ?_))
    rintro e w1 ⟨rfl,hr,hg⟩
    replace HR:Hid (RS b s (i) w1):=hr
    replace HG:Hid (w.grownBy w1 (some b)):=gb_trans HG.out hg
    clear hr hg
    go_wp2_with (first | (go_at_call 60;refine (C1.out _ HR.out).mono ?_))
    rintro e w2 ⟨rfl,hr,hg⟩
    replace HR:Hid (RS b s (i) w2):=hr
    replace HG:Hid (w.grownBy w2 (some b)):=gb_trans HG.out hg
    clear hr hg
    go_wp2_with (first | (go_at_call 60;refine (C2.out _ HR.out).mono ?_))
    rintro e w3 ⟨rfl,hr,hg⟩
    replace HR:Hid (RS b s (i) w3):=hr
    replace HG:Hid (w.grownBy w3 (some b)):=gb_trans HG.out hg
    clear hr hg
    go_wp2
    go_ret
    exact ⟨rfl,HR.out,HG.out⟩
open Go.RowKit
theorem gb_own0 {w wa wb:World} {B:Nat} (h:w.grownBy wa none) (hg:wa.grownBy wb (some B)) (hB:w.heap.size<=B):w.grownBy wb none :=
 ⟨hg.os.trans h.os,hg.tape.trans h.tape,hg.output.trans h.output,Nat.le_trans h.size hg.size,fun k hk hn=>(hg.block k (Nat.lt_of_lt_of_le hk h.size) (fun e=>by have:=Option.some.inj e;omega)).trans (h.block k hk hn)⟩
theorem gb_drw {w w':World} {r:Option Nat} (h:w.grownBy w' r):w.grownBy w'.drew r:=⟨h.os,h.tape,h.output,h.size,h.block⟩
set_option maxRecDepth 100000 in
set_option maxHeartbeats 400000 in
theorem numbersOf_any (A:Nat) (w:World) (h:A < w.heap.size) :
  Calls Tryz.prog 132 #[.pointer (some ⟨A,0,none⟩)] w fun e w'=>e=.returned (.agg #[.pointer (some ⟨A,0,none⟩),.pointer (some ⟨A,1,none⟩),.pointer (some ⟨A,2,none⟩)])/\w.grownBy w' none:=by
 go_enter Tryz.func132,Tryz.ntmps132
 go_wp2
 obtain ⟨B,hB⟩:∃B,w.heap.size=B:=⟨_,rfl⟩
 obtain ⟨W,hW⟩:∃W,w.alloc (.cells #[.pointer none,.pointer none,.pointer none] 181)=W:=⟨_,rfl⟩
 have hrow:W.heap[B]?=some (.cells #[.pointer none,.pointer none,.pointer none] 181 (0,0)):=by rw [<-hW,<-hB];exact heap_alloc_new w _
 have HG:Hid (w.grownBy W none):=by show w.grownBy W none;rw [<-hW];exact gb_alloc (gb_refl w none) _
 have HR:Hid (W.heap[B]?=some (.cells #[.pointer none,.pointer none,.pointer none] 181 (0,0))):=hrow
 have c0:W.cell? ⟨B,0,none⟩=some (.pointer none):=by rw [Lib.cell_of_heap hrow];rfl
 have c1:W.cell? ⟨B,1,none⟩=some (.pointer none):=by rw [Lib.cell_of_heap hrow];rfl
 have c2:W.cell? ⟨B,2,none⟩=some (.pointer none):=by rw [Lib.cell_of_heap hrow];rfl
 have ff:∀o,W.frozen? ⟨B,o,none⟩=false:=fun o=>Lib.frozen_of_heap hrow o
 have HB:Hid (w.heap.size<=B):=by show _<=_;omega
 try rw [hW]
 try rw [hB]
 clear hrow hW hB h
 go_region_held3 (fun w'=>True) (trivial) (fail)
 have HGF:Hid (w.grownBy (((W.setCell ⟨B,0,none⟩ (.pointer (some ⟨A,0,none⟩))).setCell ⟨B,1,none⟩ (.pointer (some ⟨A,1,none⟩))).setCell ⟨B,2,none⟩ (.pointer (some ⟨A,2,none⟩))).drew none):=gb_own0 HG.out (gb_drw (gb_set (gb_set (gb_set (gb_refl W (some B)) _ _) _ _) _ _)) HB.out
 clear c0 c1 c2 ff
 go_wp2
 refine bodyPost_ret (results_cell_row rfl _ _ B 181 #[.pointer (some ⟨A,0,none⟩),.pointer (some ⟨A,1,none⟩),.pointer (some ⟨A,2,none⟩)] (0,0) _ rfl ?_ Tryz.underlying181 rfl (by kernel_rfl)) rfl ⟨rfl,HGF.out⟩
 have h3:(((W.setCell ⟨B,0,none⟩ (.pointer (some ⟨A,0,none⟩))).setCell ⟨B,1,none⟩ (.pointer (some ⟨A,1,none⟩))).setCell ⟨B,2,none⟩ (.pointer (some ⟨A,2,none⟩))).heap[B]?=some (.cells #[.pointer (some ⟨A,0,none⟩),.pointer (some ⟨A,1,none⟩),.pointer (some ⟨A,2,none⟩)] 181 (0,0)):=by
  have hr:=HR.out
  simp [World.setCell,Array.getElem?_modify,hr]
 exact h3
set_option maxHeartbeats 400000 in
theorem signs1_any (a b c n:Int) (P:ByteArray) (w:World) :
  Calls Tryz.prog 123 #[.agg #[.int .i64 a,.int .i64 b,.int .i64 c,.string P,.string ⟨#[]⟩,.int .i64 n]] w fun e w'=>e=.returned (.agg #[.int .i64 a,.int .i64 b,.int .i64 c,.string P,.string ⟨#[]⟩,.int .i64 0,.int .i64 0,.int .i64 0,.string ⟨#[]⟩,.string ⟨#[]⟩,.bool true])/\w.grownBy w' none:=by
 go_enter Tryz.func123,Tryz.ntmps123
 go_wp2
 refine bodyPost_ret (results_cell_row rfl _ _ (w.heap.size+1) 37 #[.int .i64 a,.int .i64 b,.int .i64 c,.string P,.string ⟨#[]⟩,.int .i64 0,.int .i64 0,.int .i64 0,.string ⟨#[]⟩,.string ⟨#[]⟩,.bool true] (0,0) _ rfl ?_ Tryz.underlying37 rfl (by kernel_rfl)) rfl ⟨rfl,gb_alloc (gb_alloc (gb_refl w none) _) _⟩
 have:=heap_alloc_new (w.alloc (.cells #[.int .i64 a,.int .i64 b,.int .i64 c,.string P,.string ⟨#[]⟩,.int .i64 n] 145)) (.cells #[.int .i64 a,.int .i64 b,.int .i64 c,.string P,.string ⟨#[]⟩,.int .i64 0,.int .i64 0,.int .i64 0,.string ⟨#[]⟩,.string ⟨#[]⟩,.bool true] 37)
 rw [show (w.alloc (.cells #[.int .i64 a,.int .i64 b,.int .i64 c,.string P,.string ⟨#[]⟩,.int .i64 n] 145)).heap.size=w.heap.size+1 by simp] at this
 exact this
open Go.RowKit
def VA (A:Nat) (x1 x2 x3:Int) (P B:ByteArray) (w:World):Prop:=w.heap[A]?=some (.cells #[.int .i64 x1,.int .i64 x2,.int .i64 x3,.string P,.string B] 35 (0,0))
theorem VA.c0 {A:Nat} {x1 x2 x3:Int} {P B:ByteArray} {w:World} (h:VA A x1 x2 x3 P B w):w.cell? ⟨A,0,none⟩=some (.int .i64 x1):=by rw [Lib.cell_of_heap h];rfl
theorem VA.c1 {A:Nat} {x1 x2 x3:Int} {P B:ByteArray} {w:World} (h:VA A x1 x2 x3 P B w):w.cell? ⟨A,1,none⟩=some (.int .i64 x2):=by rw [Lib.cell_of_heap h];rfl
theorem VA.c2 {A:Nat} {x1 x2 x3:Int} {P B:ByteArray} {w:World} (h:VA A x1 x2 x3 P B w):w.cell? ⟨A,2,none⟩=some (.int .i64 x3):=by rw [Lib.cell_of_heap h];rfl
theorem VA.c3 {A:Nat} {x1 x2 x3:Int} {P B:ByteArray} {w:World} (h:VA A x1 x2 x3 P B w):w.cell? ⟨A,3,none⟩=some (.string P):=by rw [Lib.cell_of_heap h];rfl
theorem VA.c4 {A:Nat} {x1 x2 x3:Int} {P B:ByteArray} {w:World} (h:VA A x1 x2 x3 P B w):w.cell? ⟨A,4,none⟩=some (.string B):=by rw [Lib.cell_of_heap h];rfl
theorem VA.other {A V:Nat} {x1 x2 x3:Int} {P B:ByteArray} {w:World} (h:VA A x1 x2 x3 P B w) (hn:A ≠ V) (o:Nat) (x:Value):VA A x1 x2 x3 P B (w.setCell ⟨V,o,none⟩ x):=by
 unfold VA at h ⊢
 rw [heap_setCell_other w _ A x (by simpa using hn)];exact h
theorem VA.f {A:Nat} {x1 x2 x3:Int} {P B:ByteArray} {w:World} (h:VA A x1 x2 x3 P B w) (o:Nat):w.frozen? ⟨A,o,none⟩=false:=Lib.frozen_of_heap h o
theorem VA.grow {A:Nat} {x1 x2 x3:Int} {P B:ByteArray} {w w':World} (h:VA A x1 x2 x3 P B w) (hg:w.grownBy w' none):VA A x1 x2 x3 P B w':=by
 unfold VA at h ⊢
 rw [hg.block A ((Array.getElem?_eq_some_iff.1 h).1) (by simp)];exact h
theorem VA.set0 {A:Nat} {x1 x2 x3:Int} {P B:ByteArray} {w:World} (h:VA A x1 x2 x3 P B w) (y:Int):VA A y x2 x3 P B (w.setCell ⟨A,0,none⟩ (.int .i64 y)):=by
 unfold VA at h ⊢;simp [World.setCell,Array.getElem?_modify,h]
theorem VA.set1 {A:Nat} {x1 x2 x3:Int} {P B:ByteArray} {w:World} (h:VA A x1 x2 x3 P B w) (y:Int):VA A x1 y x3 P B (w.setCell ⟨A,1,none⟩ (.int .i64 y)):=by
 unfold VA at h ⊢;simp [World.setCell,Array.getElem?_modify,h]
theorem VA.set2 {A:Nat} {x1 x2 x3:Int} {P B:ByteArray} {w:World} (h:VA A x1 x2 x3 P B w) (y:Int):VA A x1 x2 y P B (w.setCell ⟨A,2,none⟩ (.int .i64 y)):=by
 unfold VA at h ⊢;simp [World.setCell,Array.getElem?_modify,h]
theorem VA.set3 {A:Nat} {x1 x2 x3:Int} {P B:ByteArray} {w:World} (h:VA A x1 x2 x3 P B w) (y:ByteArray):VA A x1 x2 x3 y B (w.setCell ⟨A,3,none⟩ (.string y)):=by
 unfold VA at h ⊢;simp [World.setCell,Array.getElem?_modify,h]
theorem jp0 (v:Nat) (w:World):(Instr.index 181 (.agg #[.pointer (some ⟨v,0,none⟩),.pointer (some ⟨v,1,none⟩),.pointer (some ⟨v,2,none⟩)]) (.int .i64 0)).run Tryz.prog w=.ok (.pointer (some ⟨v,0,none⟩)) w:=by kernel_rfl
theorem jp1 (v:Nat) (w:World):(Instr.index 181 (.agg #[.pointer (some ⟨v,0,none⟩),.pointer (some ⟨v,1,none⟩),.pointer (some ⟨v,2,none⟩)]) (.int .i64 1)).run Tryz.prog w=.ok (.pointer (some ⟨v,1,none⟩)) w:=by kernel_rfl
theorem jp2 (v:Nat) (w:World):(Instr.index 181 (.agg #[.pointer (some ⟨v,0,none⟩),.pointer (some ⟨v,1,none⟩),.pointer (some ⟨v,2,none⟩)]) (.int .i64 2)).run Tryz.prog w=.ok (.pointer (some ⟨v,2,none⟩)) w:=by kernel_rfl
set_option maxRecDepth 100000 in
set_option maxHeartbeats 1600000 in
theorem behind1_any (a b c:Int) (P:ByteArray) (w:World) (ha:0<=a/\a<=999999999) (hb:0<=b/\b<=999999999) (hc:0<=c/\c<=999999999) :
  Calls Tryz.prog 159 #[.agg #[.int .i64 a,.int .i64 b,.int .i64 c,.string P,.string ⟨#[]⟩],.int .i64 1] w fun e w'=>e=.returned (.agg #[.int .i64 (a+1),.int .i64 0,.int .i64 0,.string ⟨#[48]⟩,.string ⟨#[]⟩])/\w.grownBy w' none:=by
 go_enter Tryz.func159,Tryz.ntmps159
 go_wp2_with (first | (go_at_call 132;refine (numbersOf_any _ _ (by simp;omega)).mono ?_))
 rintro e w1 ⟨rfl,hg⟩
 obtain ⟨A,hA⟩:∃A,w.heap.size=A:=⟨_,rfl⟩
 have HV:Hid (VA A a b c ⟨#[48]⟩ ⟨#[]⟩ w1):=by
  refine VA.grow (w:=(w.alloc (.cells #[.int .i64 a,.int .i64 b,.int .i64 c,.string ⟨#[48]⟩,.string ⟨#[]⟩] 35)).alloc (.cells #[.int .i64 0,.int .i64 0,.int .i64 0,.string ⟨#[]⟩,.string ⟨#[]⟩] 35)) ?_ hg
  unfold VA
  rw [<-hA,Lib.alloc_old _ _ _ (by simp)]
  exact heap_alloc_new w _
 have HR:Hid (VA (A+1) 0 0 0 ⟨#[]⟩ ⟨#[]⟩ w1):=by
  refine VA.grow (w:=(w.alloc (.cells #[.int .i64 a,.int .i64 b,.int .i64 c,.string ⟨#[48]⟩,.string ⟨#[]⟩] 35)).alloc (.cells #[.int .i64 0,.int .i64 0,.int .i64 0,.string ⟨#[]⟩,.string ⟨#[]⟩] 35)) ?_ hg
  have:=heap_alloc_new (w.alloc (.cells #[.int .i64 a,.int .i64 b,.int .i64 c,.string ⟨#[48]⟩,.string ⟨#[]⟩] 35)) (.cells #[.int .i64 0,.int .i64 0,.int .i64 0,.string ⟨#[]⟩,.string ⟨#[]⟩] 35)
  unfold VA
  rw [<-hA]
  simpa using this
 have HG:Hid (w.grownBy w1 none):=gb_trans (gb_alloc (gb_alloc (gb_refl w none) _) _) hg
 have HA:Hid (w.heap.size<=A):=by show _<=_;omega
 try rw [hA]
 clear hA hg
 go_wp2
 go_loopw [9] (fun vi wr=>((vi=.int .i64 0/\VA A a b c ⟨#[48]⟩ ⟨#[]⟩ wr)\/(vi=.int .i64 1/\VA A (a+1) b c ⟨#[48]⟩ ⟨#[]⟩ wr)\/(vi=.int .i64 2/\VA A (a+1) 0 c ⟨#[48]⟩ ⟨#[]⟩ wr)\/(vi=.int .i64 3/\VA A (a+1) 0 0 ⟨#[48]⟩ ⟨#[]⟩ wr))/\VA (A+1) 0 0 0 ⟨#[]⟩ ⟨#[]⟩ wr/\w.grownBy wr none) (fun vi _=>3 - (intOf vi).toNat)
 case atStart=>exact ⟨Or.inl ⟨rfl,HV.out⟩,HR.out,HG.out⟩
 case round =>
  obtain ⟨hs,hr,hg⟩:=hrel
  clear HV HR HG
  have HR:Hid (VA (A+1) 0 0 0 ⟨#[]⟩ ⟨#[]⟩ wr):=hr
  have HG:Hid (w.grownBy wr none):=hg
  clear hr hg
  rcases hs with ⟨rfl,hv⟩ | ⟨rfl,hv⟩ | ⟨rfl,hv⟩ | ⟨rfl,hv⟩
  ·have HV:Hid (VA A a b c ⟨#[48]⟩ ⟨#[]⟩ wr):=hv
   have ix:=jp0 A wr
   have cc:=HV.out.c0
   have ff:=HV.out.f 0
   clear hv
   go_wp2
   exact ⟨⟨Or.inr (Or.inl ⟨rfl,HV.out.set0 _⟩),HR.out.other (by omega) _ _,gb_own0 HG.out (gb_set (gb_refl wr (some A)) _ _) HA.out⟩,by simp [intOf]⟩
  ·have HV:Hid (VA A (a+1) b c ⟨#[48]⟩ ⟨#[]⟩ wr):=hv
   have ix:=jp1 A wr
   have cc:=HV.out.c1
   have ff:=HV.out.f 1
   clear hv
   go_wp2
   exact ⟨⟨Or.inr (Or.inr (Or.inl ⟨rfl,HV.out.set1 _⟩)),HR.out.other (by omega) _ _,gb_own0 HG.out (gb_set (gb_refl wr (some A)) _ _) HA.out⟩,by simp [intOf]⟩
  ·have HV:Hid (VA A (a+1) 0 c ⟨#[48]⟩ ⟨#[]⟩ wr):=hv
   have ix:=jp2 A wr
   have cc:=HV.out.c2
   have ff:=HV.out.f 2
   clear hv
   go_wp2
   exact ⟨⟨Or.inr (Or.inr (Or.inr (⟨rfl,HV.out.set2 _⟩))),HR.out.other (by omega) _ _,gb_own0 HG.out (gb_set (gb_refl wr (some A)) _ _) HA.out⟩,by simp [intOf]⟩
  ·have HV:Hid (VA A (a+1) 0 0 ⟨#[48]⟩ ⟨#[]⟩ wr):=hv
   have e0:=HV.out.c0
   have e1:=HV.out.c1
   have e2:=HV.out.c2
   have e3:=HV.out.c3
   have e4:=HV.out.c4
   have r0:=HR.out.c0
   have r1:=HR.out.c1
   have r2:=HR.out.c2
   have r3:=HR.out.c3
   have r4:=HR.out.c4
   have ff:=HR.out.f
   clear hv
   go_wp2
   have hr:=HR.out
   unfold VA at hr
   refine bodyPost_ret (results_cell_row rfl _ _ (A+1) 35 #[.int .i64 (a+1),.int .i64 0,.int .i64 0,.string ⟨#[48]⟩,.string ⟨#[]⟩] (0,0) _ rfl ?_ Tryz.underlying35 rfl (by kernel_rfl)) rfl ⟨rfl,gb_own0 HG.out (gb_set (gb_set (gb_set (gb_set (gb_set (gb_refl wr (some (A+1))) _ _) _ _) _ _) _ _) _ _) (by have:=HA.out;omega)⟩
   simp [World.setCell,Array.getElem?_modify,hr]
set_option maxRecDepth 100000 in
set_option maxHeartbeats 1600000 in
theorem behind2_any (a b c:Int) (P:ByteArray) (w:World) (ha:0<=a/\a<=999999999) (hb:0<=b/\b<=999999999) (hc:0<=c/\c<=999999999) :
  Calls Tryz.prog 159 #[.agg #[.int .i64 a,.int .i64 b,.int .i64 c,.string P,.string ⟨#[]⟩],.int .i64 2] w fun e w'=>e=.returned (.agg #[.int .i64 a,.int .i64 (b+1),.int .i64 0,.string ⟨#[48]⟩,.string ⟨#[]⟩])/\w.grownBy w' none:=by
 go_enter Tryz.func159,Tryz.ntmps159
 go_wp2_with (first | (go_at_call 132;refine (numbersOf_any _ _ (by simp;omega)).mono ?_))
 rintro e w1 ⟨rfl,hg⟩
 obtain ⟨A,hA⟩:∃A,w.heap.size=A:=⟨_,rfl⟩
 have HV:Hid (VA A a b c ⟨#[48]⟩ ⟨#[]⟩ w1):=by
  refine VA.grow (w:=(w.alloc (.cells #[.int .i64 a,.int .i64 b,.int .i64 c,.string ⟨#[48]⟩,.string ⟨#[]⟩] 35)).alloc (.cells #[.int .i64 0,.int .i64 0,.int .i64 0,.string ⟨#[]⟩,.string ⟨#[]⟩] 35)) ?_ hg
  unfold VA
  rw [<-hA,Lib.alloc_old _ _ _ (by simp)]
  exact heap_alloc_new w _
 have HR:Hid (VA (A+1) 0 0 0 ⟨#[]⟩ ⟨#[]⟩ w1):=by
  refine VA.grow (w:=(w.alloc (.cells #[.int .i64 a,.int .i64 b,.int .i64 c,.string ⟨#[48]⟩,.string ⟨#[]⟩] 35)).alloc (.cells #[.int .i64 0,.int .i64 0,.int .i64 0,.string ⟨#[]⟩,.string ⟨#[]⟩] 35)) ?_ hg
  have:=heap_alloc_new (w.alloc (.cells #[.int .i64 a,.int .i64 b,.int .i64 c,.string ⟨#[48]⟩,.string ⟨#[]⟩] 35)) (.cells #[.int .i64 0,.int .i64 0,.int .i64 0,.string ⟨#[]⟩,.string ⟨#[]⟩] 35)
  unfold VA
  rw [<-hA]
  simpa using this
 have HG:Hid (w.grownBy w1 none):=gb_trans (gb_alloc (gb_alloc (gb_refl w none) _) _) hg
 have HA:Hid (w.heap.size<=A):=by show _<=_;omega
 try rw [hA]
 clear hA hg
 go_wp2
 go_loopw [9] (fun vi wr=>((vi=.int .i64 0/\VA A a b c ⟨#[48]⟩ ⟨#[]⟩ wr)\/(vi=.int .i64 1/\VA A a b c ⟨#[48]⟩ ⟨#[]⟩ wr)\/(vi=.int .i64 2/\VA A a (b+1) c ⟨#[48]⟩ ⟨#[]⟩ wr)\/(vi=.int .i64 3/\VA A a (b+1) 0 ⟨#[48]⟩ ⟨#[]⟩ wr))/\VA (A+1) 0 0 0 ⟨#[]⟩ ⟨#[]⟩ wr/\w.grownBy wr none) (fun vi _=>3 - (intOf vi).toNat)
 case atStart=>exact ⟨Or.inl ⟨rfl,HV.out⟩,HR.out,HG.out⟩
 case round =>
  obtain ⟨hs,hr,hg⟩:=hrel
  clear HV HR HG
  have HR:Hid (VA (A+1) 0 0 0 ⟨#[]⟩ ⟨#[]⟩ wr):=hr
  have HG:Hid (w.grownBy wr none):=hg
  clear hr hg
  rcases hs with ⟨rfl,hv⟩ | ⟨rfl,hv⟩ | ⟨rfl,hv⟩ | ⟨rfl,hv⟩
  ·have HV:Hid (VA A a b c ⟨#[48]⟩ ⟨#[]⟩ wr):=hv
   have ix:=jp0 A wr
   have cc:=HV.out.c0
   have ff:=HV.out.f 0
   clear hv
   go_wp2
   go_roundw
   case rel=>exact ⟨Or.inr (Or.inl ⟨rfl,HV.out⟩),HR.out,HG.out⟩
   case measure=>simp [intOf]
  ·have HV:Hid (VA A a b c ⟨#[48]⟩ ⟨#[]⟩ wr):=hv
   have ix:=jp1 A wr
   have cc:=HV.out.c1
   have ff:=HV.out.f 1
   clear hv
   go_wp2
   exact ⟨⟨Or.inr (Or.inr (Or.inl ⟨rfl,HV.out.set1 _⟩)),HR.out.other (by omega) _ _,gb_own0 HG.out (gb_set (gb_refl wr (some A)) _ _) HA.out⟩,by simp [intOf]⟩
  ·have HV:Hid (VA A a (b+1) c ⟨#[48]⟩ ⟨#[]⟩ wr):=hv
   have ix:=jp2 A wr
   have cc:=HV.out.c2
   have ff:=HV.out.f 2
   clear hv
   go_wp2
   exact ⟨⟨Or.inr (Or.inr (Or.inr (⟨rfl,HV.out.set2 _⟩))),HR.out.other (by omega) _ _,gb_own0 HG.out (gb_set (gb_refl wr (some A)) _ _) HA.out⟩,by simp [intOf]⟩
  ·have HV:Hid (VA A a (b+1) 0 ⟨#[48]⟩ ⟨#[]⟩ wr):=hv
   have e0:=HV.out.c0
   have e1:=HV.out.c1
   have e2:=HV.out.c2
   have e3:=HV.out.c3
   have e4:=HV.out.c4
   have r0:=HR.out.c0
   have r1:=HR.out.c1
   have r2:=HR.out.c2
   have r3:=HR.out.c3
   have r4:=HR.out.c4
   have ff:=HR.out.f
   clear hv
   go_wp2
   have hr:=HR.out
   unfold VA at hr
   refine bodyPost_ret (results_cell_row rfl _ _ (A+1) 35 #[.int .i64 a,.int .i64 (b+1),.int .i64 0,.string ⟨#[48]⟩,.string ⟨#[]⟩] (0,0) _ rfl ?_ Tryz.underlying35 rfl (by kernel_rfl)) rfl ⟨rfl,gb_own0 HG.out (gb_set (gb_set (gb_set (gb_set (gb_set (gb_refl wr (some (A+1))) _ _) _ _) _ _) _ _) _ _) (by have:=HA.out;omega)⟩
   simp [World.setCell,Array.getElem?_modify,hr]
set_option maxRecDepth 100000 in
set_option maxHeartbeats 1600000 in
theorem behind3_any (a b c:Int) (P:ByteArray) (w:World) (ha:0<=a/\a<=999999999) (hb:0<=b/\b<=999999999) (hc:0<=c/\c<=999999999) :
  Calls Tryz.prog 159 #[.agg #[.int .i64 a,.int .i64 b,.int .i64 c,.string P,.string ⟨#[]⟩],.int .i64 3] w fun e w'=>e=.returned (.agg #[.int .i64 a,.int .i64 b,.int .i64 (c+1),.string ⟨#[48]⟩,.string ⟨#[]⟩])/\w.grownBy w' none:=by
 go_enter Tryz.func159,Tryz.ntmps159
 go_wp2_with (first | (go_at_call 132;refine (numbersOf_any _ _ (by simp;omega)).mono ?_))
 rintro e w1 ⟨rfl,hg⟩
 obtain ⟨A,hA⟩:∃A,w.heap.size=A:=⟨_,rfl⟩
 have HV:Hid (VA A a b c ⟨#[48]⟩ ⟨#[]⟩ w1):=by
  refine VA.grow (w:=(w.alloc (.cells #[.int .i64 a,.int .i64 b,.int .i64 c,.string ⟨#[48]⟩,.string ⟨#[]⟩] 35)).alloc (.cells #[.int .i64 0,.int .i64 0,.int .i64 0,.string ⟨#[]⟩,.string ⟨#[]⟩] 35)) ?_ hg
  unfold VA
  rw [<-hA,Lib.alloc_old _ _ _ (by simp)]
  exact heap_alloc_new w _
 have HR:Hid (VA (A+1) 0 0 0 ⟨#[]⟩ ⟨#[]⟩ w1):=by
  refine VA.grow (w:=(w.alloc (.cells #[.int .i64 a,.int .i64 b,.int .i64 c,.string ⟨#[48]⟩,.string ⟨#[]⟩] 35)).alloc (.cells #[.int .i64 0,.int .i64 0,.int .i64 0,.string ⟨#[]⟩,.string ⟨#[]⟩] 35)) ?_ hg
  have:=heap_alloc_new (w.alloc (.cells #[.int .i64 a,.int .i64 b,.int .i64 c,.string ⟨#[48]⟩,.string ⟨#[]⟩] 35)) (.cells #[.int .i64 0,.int .i64 0,.int .i64 0,.string ⟨#[]⟩,.string ⟨#[]⟩] 35)
  unfold VA
  rw [<-hA]
  simpa using this
 have HG:Hid (w.grownBy w1 none):=gb_trans (gb_alloc (gb_alloc (gb_refl w none) _) _) hg
 have HA:Hid (w.heap.size<=A):=by show _<=_;omega
 try rw [hA]
 clear hA hg
 go_wp2
 go_loopw [9] (fun vi wr=>((vi=.int .i64 0/\VA A a b c ⟨#[48]⟩ ⟨#[]⟩ wr)\/(vi=.int .i64 1/\VA A a b c ⟨#[48]⟩ ⟨#[]⟩ wr)\/(vi=.int .i64 2/\VA A a b c ⟨#[48]⟩ ⟨#[]⟩ wr)\/(vi=.int .i64 3/\VA A a b (c+1) ⟨#[48]⟩ ⟨#[]⟩ wr))/\VA (A+1) 0 0 0 ⟨#[]⟩ ⟨#[]⟩ wr/\w.grownBy wr none) (fun vi _=>3 - (intOf vi).toNat)
 case atStart=>exact ⟨Or.inl ⟨rfl,HV.out⟩,HR.out,HG.out⟩
 case round =>
  obtain ⟨hs,hr,hg⟩:=hrel
  clear HV HR HG
  have HR:Hid (VA (A+1) 0 0 0 ⟨#[]⟩ ⟨#[]⟩ wr):=hr
  have HG:Hid (w.grownBy wr none):=hg
  clear hr hg
  rcases hs with ⟨rfl,hv⟩ | ⟨rfl,hv⟩ | ⟨rfl,hv⟩ | ⟨rfl,hv⟩
  ·have HV:Hid (VA A a b c ⟨#[48]⟩ ⟨#[]⟩ wr):=hv
   have ix:=jp0 A wr
   have cc:=HV.out.c0
   have ff:=HV.out.f 0
   clear hv
   go_wp2
   go_roundw
   case rel=>exact ⟨Or.inr (Or.inl ⟨rfl,HV.out⟩),HR.out,HG.out⟩
   case measure=>simp [intOf]
  ·have HV:Hid (VA A a b c ⟨#[48]⟩ ⟨#[]⟩ wr):=hv
   have ix:=jp1 A wr
   have cc:=HV.out.c1
   have ff:=HV.out.f 1
   clear hv
   go_wp2
   go_roundw
   case rel=>exact ⟨Or.inr (Or.inr (Or.inl ⟨rfl,HV.out⟩)),HR.out,HG.out⟩
   case measure=>simp [intOf]
  ·have HV:Hid (VA A a b c ⟨#[48]⟩ ⟨#[]⟩ wr):=hv
   have ix:=jp2 A wr
   have cc:=HV.out.c2
   have ff:=HV.out.f 2
   clear hv
   go_wp2
   exact ⟨⟨Or.inr (Or.inr (Or.inr (⟨rfl,HV.out.set2 _⟩))),HR.out.other (by omega) _ _,gb_own0 HG.out (gb_set (gb_refl wr (some A)) _ _) HA.out⟩,by simp [intOf]⟩
  ·have HV:Hid (VA A a b (c+1) ⟨#[48]⟩ ⟨#[]⟩ wr):=hv
   have e0:=HV.out.c0
   have e1:=HV.out.c1
   have e2:=HV.out.c2
   have e3:=HV.out.c3
   have e4:=HV.out.c4
   have r0:=HR.out.c0
   have r1:=HR.out.c1
   have r2:=HR.out.c2
   have r3:=HR.out.c3
   have r4:=HR.out.c4
   have ff:=HR.out.f
   clear hv
   go_wp2
   have hr:=HR.out
   unfold VA at hr
   refine bodyPost_ret (results_cell_row rfl _ _ (A+1) 35 #[.int .i64 a,.int .i64 b,.int .i64 (c+1),.string ⟨#[48]⟩,.string ⟨#[]⟩] (0,0) _ rfl ?_ Tryz.underlying35 rfl (by kernel_rfl)) rfl ⟨rfl,gb_own0 HG.out (gb_set (gb_set (gb_set (gb_set (gb_set (gb_refl wr (some (A+1))) _ _) _ _) _ _) _ _) _ _) (by have:=HA.out;omega)⟩
   simp [World.setCell,Array.getElem?_modify,hr]
end Go.Proofs.YtonfldbigenfhaaGreatDoor
