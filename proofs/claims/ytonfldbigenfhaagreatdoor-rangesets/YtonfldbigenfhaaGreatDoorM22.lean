import Derived.Test.YtonfldbigenfhaaGreatDoorM21
import Derived.Deep.RegionHeld3
namespace Go.Proofs.YtonfldbigenfhaaGreatDoor
open Go.RowKit
set_option linter.unusedVariables false
def sgRow:Array Value:=#[.string ⟨#[62,61]⟩,.func (.func 123) #[] #[],.string ⟨#[60,61]⟩,.func (.func 124) #[] #[],.string ⟨#[62]⟩,.func (.func 125) #[] #[],.string ⟨#[60]⟩,.func (.func 126) #[] #[],.string ⟨#[61]⟩,.func (.func 127) #[] #[],.string ⟨#[94]⟩,.func (.func 128) #[] #[],.string ⟨#[126]⟩,.func (.func 131) #[] #[],.string ⟨#[]⟩,.func (.func 127) #[] #[]]
set_option maxHeartbeats 400000 in
theorem signs_any (w:World):Calls Tryz.prog 107 #[] w fun e w'=>e=.returned (.slice (some ⟨w.heap.size,0,none⟩) 8 8)/\w'=w.alloc (.cells sgRow 143):=by
 go_enter Tryz.func107,Tryz.ntmps107
 go_wp2
 go_ret
 exact ⟨rfl,rfl⟩
def sgT (k:Nat):List UInt8:=match k with | 0=>[62,61] | 1=>[60,61] | 2=>[62] | 3=>[60] | 4=>[61] | 5=>[94] | 6=>[126] | _=>[]
def sgA (l:List UInt8) (i k:Nat):Bool:=Lib.hasPrefix (l.drop i) (sgT k)
theorem prefix_two (l:List UInt8) (i:Nat) (a c:UInt8):Lib.hasPrefix (l.drop i) [a,c]=(decide (l[i]?=some a) && decide (l[i+1]?=some c)):=by
 have e0:l[i]?=(l.drop i)[0]?:=by rw [List.getElem?_drop];rfl
 have e1:l[i+1]?=(l.drop i)[1]?:=by rw [List.getElem?_drop]
 rw [e0,e1]
 cases l.drop i with
 | nil=>rfl
 | cons x r =>
  cases r with
  | nil =>
   show (a == x && false)=_
   simp
  | cons y r =>
   show (a == x && (c == y && true))=(decide (some x=some a) && decide (some y=some c))
   rw [Bool.eq_iff_iff]
   simp only [Bool.and_eq_true,beq_iff_eq,decide_eq_true_eq,Option.some.injEq,and_true]
   exact ⟨fun h=>⟨h.1.symm,h.2.symm⟩,fun h=>⟨h.1.symm,h.2.symm⟩⟩
theorem sign0 (l:List UInt8) (i:Nat)  (h0:sgA l i 0=true):rdSign l i=(1,i+2):=by
 have g0:(decide (l[i]?=some 62) && decide (l[i+1]?=some 61))=true:=by rw [<-prefix_two];exact h0
 simp only [Bool.and_eq_true,decide_eq_true_eq] at g0
 unfold rdSign
 repeat' split
 all_goals simp_all
theorem sign1 (l:List UInt8) (i:Nat) (h0:sgA l i 0=false) (h1:sgA l i 1=true):rdSign l i=(2,i+2):=by
 have g0:(decide (l[i]?=some 62) && decide (l[i+1]?=some 61))=false:=by rw [<-prefix_two];exact h0
 have g1:(decide (l[i]?=some 60) && decide (l[i+1]?=some 61))=true:=by rw [<-prefix_two];exact h1
 simp only [Bool.and_eq_true,Bool.and_eq_false_iff,decide_eq_true_eq,decide_eq_false_iff_not] at g0 g1
 unfold rdSign
 repeat' split
 all_goals simp_all
theorem sign2 (l:List UInt8) (i:Nat) (h0:sgA l i 0=false) (h1:sgA l i 1=false) (h2:sgA l i 2=true):rdSign l i=(3,i+1):=by
 have g0:(decide (l[i]?=some 62) && decide (l[i+1]?=some 61))=false:=by rw [<-prefix_two];exact h0
 have g1:(decide (l[i]?=some 60) && decide (l[i+1]?=some 61))=false:=by rw [<-prefix_two];exact h1
 have g2:decide (l[i]?=some 62)=true:=by rw [<-prefix_one];exact h2
 simp only [Bool.and_eq_false_iff,decide_eq_true_eq,decide_eq_false_iff_not] at g0 g1 g2
 unfold rdSign
 repeat' split
 all_goals simp_all
theorem sign3 (l:List UInt8) (i:Nat) (h0:sgA l i 0=false) (h1:sgA l i 1=false) (h2:sgA l i 2=false) (h3:sgA l i 3=true):rdSign l i=(4,i+1):=by
 have g0:(decide (l[i]?=some 62) && decide (l[i+1]?=some 61))=false:=by rw [<-prefix_two];exact h0
 have g1:(decide (l[i]?=some 60) && decide (l[i+1]?=some 61))=false:=by rw [<-prefix_two];exact h1
 have g2:decide (l[i]?=some 62)=false:=by rw [<-prefix_one];exact h2
 have g3:decide (l[i]?=some 60)=true:=by rw [<-prefix_one];exact h3
 simp only [Bool.and_eq_false_iff,decide_eq_true_eq,decide_eq_false_iff_not] at g0 g1 g2 g3
 unfold rdSign
 repeat' split
 all_goals simp_all
theorem sign4 (l:List UInt8) (i:Nat) (h0:sgA l i 0=false) (h1:sgA l i 1=false) (h2:sgA l i 2=false) (h3:sgA l i 3=false) (h4:sgA l i 4=true):rdSign l i=(0,i+1):=by
 have g0:(decide (l[i]?=some 62) && decide (l[i+1]?=some 61))=false:=by rw [<-prefix_two];exact h0
 have g1:(decide (l[i]?=some 60) && decide (l[i+1]?=some 61))=false:=by rw [<-prefix_two];exact h1
 have g2:decide (l[i]?=some 62)=false:=by rw [<-prefix_one];exact h2
 have g3:decide (l[i]?=some 60)=false:=by rw [<-prefix_one];exact h3
 have g4:decide (l[i]?=some 61)=true:=by rw [<-prefix_one];exact h4
 simp only [Bool.and_eq_false_iff,decide_eq_true_eq,decide_eq_false_iff_not] at g0 g1 g2 g3 g4
 unfold rdSign
 repeat' split
 all_goals simp_all
theorem sign5 (l:List UInt8) (i:Nat) (h0:sgA l i 0=false) (h1:sgA l i 1=false) (h2:sgA l i 2=false) (h3:sgA l i 3=false) (h4:sgA l i 4=false) (h5:sgA l i 5=true):rdSign l i=(5,i+1):=by
 have g0:(decide (l[i]?=some 62) && decide (l[i+1]?=some 61))=false:=by rw [<-prefix_two];exact h0
 have g1:(decide (l[i]?=some 60) && decide (l[i+1]?=some 61))=false:=by rw [<-prefix_two];exact h1
 have g2:decide (l[i]?=some 62)=false:=by rw [<-prefix_one];exact h2
 have g3:decide (l[i]?=some 60)=false:=by rw [<-prefix_one];exact h3
 have g4:decide (l[i]?=some 61)=false:=by rw [<-prefix_one];exact h4
 have g5:decide (l[i]?=some 94)=true:=by rw [<-prefix_one];exact h5
 simp only [Bool.and_eq_false_iff,decide_eq_true_eq,decide_eq_false_iff_not] at g0 g1 g2 g3 g4 g5
 unfold rdSign
 repeat' split
 all_goals simp_all
theorem sign6 (l:List UInt8) (i:Nat) (h0:sgA l i 0=false) (h1:sgA l i 1=false) (h2:sgA l i 2=false) (h3:sgA l i 3=false) (h4:sgA l i 4=false) (h5:sgA l i 5=false) (h6:sgA l i 6=true):rdSign l i=(6,i+1):=by
 have g0:(decide (l[i]?=some 62) && decide (l[i+1]?=some 61))=false:=by rw [<-prefix_two];exact h0
 have g1:(decide (l[i]?=some 60) && decide (l[i+1]?=some 61))=false:=by rw [<-prefix_two];exact h1
 have g2:decide (l[i]?=some 62)=false:=by rw [<-prefix_one];exact h2
 have g3:decide (l[i]?=some 60)=false:=by rw [<-prefix_one];exact h3
 have g4:decide (l[i]?=some 61)=false:=by rw [<-prefix_one];exact h4
 have g5:decide (l[i]?=some 94)=false:=by rw [<-prefix_one];exact h5
 have g6:decide (l[i]?=some 126)=true:=by rw [<-prefix_one];exact h6
 simp only [Bool.and_eq_false_iff,decide_eq_true_eq,decide_eq_false_iff_not] at g0 g1 g2 g3 g4 g5 g6
 unfold rdSign
 repeat' split
 all_goals simp_all
theorem sign7 (l:List UInt8) (i:Nat) (h0:sgA l i 0=false) (h1:sgA l i 1=false) (h2:sgA l i 2=false) (h3:sgA l i 3=false) (h4:sgA l i 4=false) (h5:sgA l i 5=false) (h6:sgA l i 6=false):rdSign l i=(-1,i):=by
 have g0:(decide (l[i]?=some 62) && decide (l[i+1]?=some 61))=false:=by rw [<-prefix_two];exact h0
 have g1:(decide (l[i]?=some 60) && decide (l[i+1]?=some 61))=false:=by rw [<-prefix_two];exact h1
 have g2:decide (l[i]?=some 62)=false:=by rw [<-prefix_one];exact h2
 have g3:decide (l[i]?=some 60)=false:=by rw [<-prefix_one];exact h3
 have g4:decide (l[i]?=some 61)=false:=by rw [<-prefix_one];exact h4
 have g5:decide (l[i]?=some 94)=false:=by rw [<-prefix_one];exact h5
 have g6:decide (l[i]?=some 126)=false:=by rw [<-prefix_one];exact h6
 simp only [Bool.and_eq_false_iff,decide_eq_false_iff_not] at g0 g1 g2 g3 g4 g5 g6
 unfold rdSign
 repeat' split
 all_goals simp_all
def TB (A:Nat) (T F:Value) (a b c:Int) (P:ByteArray) (n:Int) (w:World):Prop:=w.heap[A]?=some (.cells #[T,F,.int .i64 a,.int .i64 b,.int .i64 c,.string P,.string ⟨#[]⟩,.int .i64 n] 147 (0,0))
theorem TB.cells {A:Nat} {T F:Value} {a b c:Int} {P:ByteArray} {n:Int} {w:World} (h:TB A T F a b c P n w):w.cell? ⟨A,0,none⟩=some T/\w.cell? ⟨A,1,none⟩=some F/\w.cell? ⟨A,2,none⟩=some (.int .i64 a)/\w.cell? ⟨A,3,none⟩=some (.int .i64 b)/\w.cell? ⟨A,4,none⟩=some (.int .i64 c)/\w.cell? ⟨A,5,none⟩=some (.string P)/\w.cell? ⟨A,6,none⟩=some (.string ⟨#[]⟩)/\w.cell? ⟨A,7,none⟩=some (.int .i64 n) :=
 ⟨by rw [Lib.cell_of_heap h];rfl,by rw [Lib.cell_of_heap h];rfl,by rw [Lib.cell_of_heap h];rfl,by rw [Lib.cell_of_heap h];rfl,by rw [Lib.cell_of_heap h];rfl,by rw [Lib.cell_of_heap h];rfl,by rw [Lib.cell_of_heap h];rfl,by rw [Lib.cell_of_heap h];rfl⟩
theorem TB.f {A:Nat} {T F:Value} {a b c:Int} {P:ByteArray} {n:Int} {w:World} (h:TB A T F a b c P n w) (o:Nat):w.frozen? ⟨A,o,none⟩=false:=Lib.frozen_of_heap h o
theorem TB.grow {A:Nat} {T F:Value} {a b c:Int} {P:ByteArray} {n:Int} {w w':World} (h:TB A T F a b c P n w) (hg:w.grownBy w' none):TB A T F a b c P n w':=by
 unfold TB at h ⊢
 rw [hg.block A ((Array.getElem?_eq_some_iff.1 h).1) (by simp)];exact h
theorem TB.growb {A:Nat} {T F:Value} {a b c:Int} {P:ByteArray} {n:Int} {w w':World} {q:Nat} (h:TB A T F a b c P n w) (hg:w.grownBy w' (some q)) (hn:A ≠ q):TB A T F a b c P n w':=by
 unfold TB at h ⊢
 rw [hg.block A ((Array.getElem?_eq_some_iff.1 h).1) (by simpa using hn)];exact h
theorem TB.other {A V:Nat} {T F:Value} {a b c:Int} {P:ByteArray} {n:Int} {w:World} (h:TB A T F a b c P n w) (hn:A ≠ V) (o:Nat) (x:Value):TB A T F a b c P n (w.setCell ⟨V,o,none⟩ x):=by
 unfold TB at h ⊢
 rw [heap_setCell_other w _ A x (by simpa using hn)];exact h
theorem TB.set01 {A:Nat} {T F:Value} {a b c:Int} {P:ByteArray} {n:Int} {w:World} (h:TB A T F a b c P n w) (x y:Value):TB A x y a b c P n ((w.setCell ⟨A,0,none⟩ x).setCell ⟨A,1,none⟩ y):=by
 unfold TB at h ⊢;simp [World.setCell,Array.getElem?_modify,h]
def put8 (w:World) (A:Nat) (T F:Value) (y1 y2 y3:Int) (x4:ByteArray) (n:Int):World:=(((((((w.setCell ⟨A,0,none⟩ T).setCell ⟨A,1,none⟩ F).setCell ⟨A,2,none⟩ (.int .i64 y1)).setCell ⟨A,3,none⟩ (.int .i64 y2)).setCell ⟨A,4,none⟩ (.int .i64 y3)).setCell ⟨A,5,none⟩ (.string x4)).setCell ⟨A,6,none⟩ (.string ⟨#[]⟩)).setCell ⟨A,7,none⟩ (.int .i64 n)
def put26 (w:World) (A:Nat) (y1 y2 y3:Int) (x4:ByteArray) (n:Int):World:=(((((w.setCell ⟨A,2,none⟩ (.int .i64 y1)).setCell ⟨A,3,none⟩ (.int .i64 y2)).setCell ⟨A,4,none⟩ (.int .i64 y3)).setCell ⟨A,5,none⟩ (.string x4)).setCell ⟨A,6,none⟩ (.string ⟨#[]⟩)).setCell ⟨A,7,none⟩ (.int .i64 n)
theorem put8_row {w:World} {A:Nat} {T F U G:Value} {z1 z2 z3:Int} {z4:ByteArray} {m:Int} (h:TB A U G z1 z2 z3 z4 m w) (y1 y2 y3:Int) (x4:ByteArray) (n:Int):TB A T F y1 y2 y3 x4 n (put8 w A T F y1 y2 y3 x4 n):=by
 unfold TB at h ⊢;simp [put8,World.setCell,Array.getElem?_modify,h]
theorem put8_rs {b A:Nat} {s:ByteArray} {j:Nat} {w:World} (h:RS b s j w) (hn:b ≠ A) (T F:Value) (y1 y2 y3:Int) (x4:ByteArray) (n:Int):RS b s j (put8 w A T F y1 y2 y3 x4 n):=(((((((h.other hn _ _).other hn _ _).other hn _ _).other hn _ _).other hn _ _).other hn _ _).other hn _ _).other hn _ _
theorem put8_gb {b A:Nat} {w W:World} (h:w.grownBy W (some b)) (hA:w.heap.size<=A) (T F:Value) (y1 y2 y3:Int) (x4:ByteArray) (n:Int):w.grownBy (put8 W A T F y1 y2 y3 x4 n) (some b):=gb_new (gb_new (gb_new (gb_new (gb_new (gb_new (gb_new (gb_new h hA _ _) hA _ _) hA _ _) hA _ _) hA _ _) hA _ _) hA _ _) hA _ _
theorem put26_rs {b A:Nat} {s:ByteArray} {j:Nat} {w:World} (h:RS b s j w) (hn:b ≠ A) (y1 y2 y3:Int) (x4:ByteArray) (n:Int):RS b s j (put26 w A y1 y2 y3 x4 n):=(((((h.other hn _ _).other hn _ _).other hn _ _).other hn _ _).other hn _ _).other hn _ _
theorem put26_gb {b A:Nat} {w W:World} (h:w.grownBy W (some b)) (hA:w.heap.size<=A) (y1 y2 y3:Int) (x4:ByteArray) (n:Int):w.grownBy (put26 W A y1 y2 y3 x4 n) (some b):=gb_new (gb_new (gb_new (gb_new (gb_new (gb_new h hA _ _) hA _ _) hA _ _) hA _ _) hA _ _) hA _ _
theorem put26_tb {A V:Nat} {T F:Value} {a b c:Int} {P:ByteArray} {m:Int} {w:World} (h:TB A T F a b c P m w) (hn:A ≠ V) (y1 y2 y3:Int) (x4:ByteArray) (n:Int):TB A T F a b c P m (put26 w V y1 y2 y3 x4 n):=(((((h.other hn _ _).other hn _ _).other hn _ _).other hn _ _).other hn _ _).other hn _ _
def TePost (b:Nat) (s:ByteArray) (sg:Int) (R:Int × Nat × Pa) (w:World) (e:Ending) (w':World):Prop :=
 ∃(T:ByteArray) (x1 x2 x3:Int) (P:ByteArray) (n:Int),e=.returned (.tuple #[.agg #[.string T,.func (.func (signF sg)) #[] #[],.int .i64 x1,.int .i64 x2,.int .i64 x3,.string P,.string ⟨#[]⟩,.int .i64 n],.int .i64 R.1])/\T.toList.isEmpty=decide (sg < 0)/\RS b s R.2.1 w'/\w.grownBy w' (some b)/\(R.1=0->paAgg x1 x2 x3 P n=paVal R.2.2)
def SR (B:Nat) (w:World):Prop:=w.heap[B]?=some (.cells sgRow 143 (0,0))
theorem SR.growb {B:Nat} {w w':World} {q:Nat} (h:SR B w) (hg:w.grownBy w' (some q)) (hn:B ≠ q):SR B w':=by
 unfold SR at h ⊢
 rw [hg.block B ((Array.getElem?_eq_some_iff.1 h).1) (by simpa using hn)];exact h
theorem sgt_take (b:Nat) (s:ByteArray) (i k:Nat) (T:ByteArray) (hT:T.data.toList=sgT k) (w:World) (hi:i<=s.size) (h:RS b s i w) (hs:s.size < 2 ^ 62) :
  Calls Tryz.prog 60 #[.pointer (some ⟨b,0,none⟩),.string T] w fun e w'=>e=.returned (.bool (sgA s.data.toList i k))/\RS b s (if sgA s.data.toList i k=true then i+T.size else i) w'/\w.grownBy w' (some b):=by
 have:=take_any b s T i w hi h hs (by
  have:T.size=(sgT k).length:=by rw [<-hT];simp
  rw [this]
  unfold sgT
  split <;> simp)
 rw [hT] at this
 exact this
set_option maxRecDepth 100000 in
set_option maxHeartbeats 6400000 in
theorem test_any (b:Nat) (s:ByteArray) (i:Nat) (w:World) (hi:i<=s.size) (h:RS b s i w) (hs:s.size<=281474976710656) :
  Calls Tryz.prog 88 #[.pointer (some ⟨b,0,none⟩)] w (TePost b s (rdSign s.data.toList i).1 (rdPa s.data.toList (rdSign s.data.toList i).2) w):=by
 have HSP:Hid ((rdSign s.data.toList i).2<=s.size):=by have:=(sign_pos s.data.toList i (by simpa using hi)).2;simp at this;exact this
 have CT:Hid (∀(k:Nat) (T:ByteArray) (w:World),T.data.toList=sgT k->RS b s i w->Calls Tryz.prog 60 #[.pointer (some ⟨b,0,none⟩),.string T] w fun e w'=>e=.returned (.bool (sgA s.data.toList i k))/\RS b s (if sgA s.data.toList i k=true then i+T.size else i) w'/\w.grownBy w' (some b)):=fun k T w hT h=>sgt_take b s i k T hT w hi h (by omega)
 have CP:Hid (∀j w,j<=s.size->RS b s j w->Calls Tryz.prog 108 #[.pointer (some ⟨b,0,none⟩)] w (PaPost b s (rdPa s.data.toList j) w)):=fun j w hj h=>partial_any b s j w hj h hs
 obtain ⟨l,hl⟩:∃l,s.data.toList=l:=⟨_,rfl⟩
 rw [hl] at HSP CT CP ⊢
 obtain ⟨sg,j,hsg⟩:∃sg j,rdSign l i=(sg,j):=⟨_,_,rfl⟩
 rw [hsg] at HSP ⊢
 have CPJ:Hid (∀w,RS b s j w->Calls Tryz.prog 108 #[.pointer (some ⟨b,0,none⟩)] w (PaPost b s (rdPa l j) w)):=fun w h=>CP.out j w HSP.out h
 simp only []
 obtain ⟨R,hR⟩:∃R,rdPa l j=R:=⟨_,rfl⟩
 rw [hR] at CPJ ⊢
 have HSG:Hid (rdSign l i=(sg,j)):=hsg
 have HI:Hid (RS b s i w):=h
 have HBb:Hid (b < w.heap.size):=by obtain ⟨t,h⟩:=h;exact (Array.getElem?_eq_some_iff.1 h).1
 have CS:Hid (∀w,Calls Tryz.prog 107 #[] w fun e w'=>e=.returned (.slice (some ⟨w.heap.size,0,none⟩) 8 8)/\w'=w.alloc (.cells sgRow 143)):=signs_any
 clear hl hsg hR h hi hs CP HSP
 go_enter Tryz.func88,Tryz.ntmps88
 go_wp2_with (first | (go_at_call 107;refine (CS.out _).mono ?_))
 rintro e w1 ⟨rfl,hw1⟩
 obtain ⟨A,hA⟩:∃A,w.heap.size=A:=⟨_,rfl⟩
 have HG:Hid (w.grownBy w1 none):=by show w.grownBy w1 none;rw [hw1];exact gb_alloc (gb_alloc (gb_alloc (gb_refl w none) _) _) _
 have HTA:Hid (TB A (.string ⟨#[]⟩) .nilFunc 0 0 0 ⟨#[]⟩ 0 w1):=by
  show TB A _ _ 0 0 0 _ 0 w1
  unfold TB
  rw [hw1,<-hA,Lib.alloc_old _ _ _ (by simp;omega),Lib.alloc_old _ _ _ (by simp)];exact heap_alloc_new w _
 have HTB:Hid (TB (A+1) (.string ⟨#[]⟩) .nilFunc 0 0 0 ⟨#[]⟩ 0 w1):=by
  show TB (A+1) _ _ 0 0 0 _ 0 w1
  unfold TB
  rw [hw1,<-hA,Lib.alloc_old _ _ _ (by simp)];exact row2' w _ _
 have HSR:Hid (SR (A+2) w1):=by
  show SR (A+2) w1
  unfold SR
  rw [hw1,<-hA];exact row3' w _ _ _
 have HA:Hid (w.heap.size<=A/\b < A):=⟨Nat.le_of_eq hA,by rw [<-hA];exact HBb.out⟩
 replace HI:Hid (RS b s i w1):=HI.out.grow HG.out
 have hsz:((w.alloc (.cells #[.string ⟨#[]⟩,.nilFunc,.int .i64 0,.int .i64 0,.int .i64 0,.string ⟨#[]⟩,.string ⟨#[]⟩,.int .i64 0] 147)).alloc (.cells #[.string ⟨#[]⟩,.nilFunc,.int .i64 0,.int .i64 0,.int .i64 0,.string ⟨#[]⟩,.string ⟨#[]⟩,.int .i64 0] 147)).heap.size=A+2:=by simp [hA]
 rw [hsz]
 try rw [hA]
 clear hA hw1 hsz
 have HBC:Hid (b ≠ A/\b ≠ A+1/\A+2 ≠ b/\A ≠ A+1):=by have:=HA.out;refine ⟨?_,?_,?_,?_⟩ <;> omega
 have HWA:Hid (w.heap.size<=A/\w.heap.size<=A+1):=by have:=HA.out;exact ⟨this.1,by omega⟩
 go_wp2
 go_loopw [10] (fun vi wr=>∃k:Nat,vi=.int .i64 k/\k < 8/\(∀m,m < k->sgA l i m=false)/\RS b s i wr/\TB A (.string ⟨#[]⟩) .nilFunc 0 0 0 ⟨#[]⟩ 0 wr/\TB (A+1) (.string ⟨#[]⟩) .nilFunc 0 0 0 ⟨#[]⟩ 0 wr/\SR (A+2) wr/\w.grownBy wr (some b)) (fun vi _=>8 - (intOf vi).toNat)
 case atStart=>exact ⟨0,rfl,by omega,fun m hm=>absurd hm (Nat.not_lt_zero _),HI.out,HTA.out,HTB.out,HSR.out,gb_weak HG.out _⟩
 case round =>
  obtain ⟨k,rfl,hk,hno,hrs,hta,htb,hsr,hg⟩:=hrel
  clear HI HTA HTB HSR HG
  have HI:Hid (RS b s i wr):=hrs
  have HTA:Hid (TB A (.string ⟨#[]⟩) .nilFunc 0 0 0 ⟨#[]⟩ 0 wr):=hta
  have HTB:Hid (TB (A+1) (.string ⟨#[]⟩) .nilFunc 0 0 0 ⟨#[]⟩ 0 wr):=htb
  have HSR:Hid (SR (A+2) wr):=hsr
  have HG:Hid (w.grownBy wr (some b)):=hg
  have HNO:Hid (∀m,m < k->sgA l i m=false):=hno
  clear hrs hta htb hsr hg hno
  have hkk:k=0\/k=1\/k=2\/k=3\/k=4\/k=5\/k=6\/k=7:=by omega
  clear hk
  rcases hkk with rfl | rfl | rfl | rfl | rfl | rfl | rfl | rfl
  ·have s0:wr.cell? ⟨A+2,0,none⟩=some (.string ⟨#[62,61]⟩):=by rw [Lib.cell_of_heap (show _=_ from HSR.out)];rfl
   have s1:wr.cell? ⟨A+2,1,none⟩=some (.func (.func 123) #[] #[]):=by rw [Lib.cell_of_heap (show _=_ from HSR.out)];rfl
   obtain ⟨D,hD⟩:∃D,wr.heap.size=D:=⟨_,rfl⟩
   obtain ⟨W0,hW0⟩:∃W0,wr.alloc (.cells #[.string ⟨#[]⟩,.nilFunc] 143)=W0:=⟨_,rfl⟩
   have HD0:Hid (W0.heap[D]?=some (.cells #[.string ⟨#[]⟩,.nilFunc] 143 (0,0))):=by show _=_;rw [<-hW0,<-hD];exact heap_alloc_new wr _
   have k0:W0.cell? ⟨D,0,none⟩=some (.string ⟨#[]⟩):=by rw [Lib.cell_of_heap HD0.out];rfl
   have k1:W0.cell? ⟨D,1,none⟩=some .nilFunc:=by rw [Lib.cell_of_heap HD0.out];rfl
   have kf:∀o,W0.frozen? ⟨D,o,none⟩=false:=fun o=>Lib.frozen_of_heap HD0.out o
   have stf:∀(a:Addr) (m:Mode) (w:World),(store a (.func (.func 123) #[] #[]) m).run Tryz.prog w=stored Tryz.prog w a (.func (.func 123) #[] #[]) m:=fun a m w=>run_store Tryz.prog w a _ m rfl
   go_wp2_with (fail)
   obtain ⟨W,hW⟩:∃W,(W0.setCell ⟨D,0,none⟩ (.string ⟨#[62,61]⟩)).setCell ⟨D,1,none⟩ (.func (.func 123) #[] #[])=W:=⟨_,rfl⟩
   have hgW:wr.grownBy W none:=by rw [<-hW];exact gb_new0 (gb_new0 (by rw [<-hW0];exact gb_alloc (gb_refl wr none) _) (Nat.le_of_eq hD) _ _) (Nat.le_of_eq hD) _ _
   have HDR:Hid (W.heap[D]?=some (.cells #[.string ⟨#[62,61]⟩,.func (.func 123) #[] #[]] 143 (0,0))):=by show _=_;have h0:=HD0.out;rw [<-hW];simp [World.setCell,Array.getElem?_modify,h0]
   have HDA:Hid (D ≠ b/\A+1 < D):=by
    have h1:=(Array.getElem?_eq_some_iff.1 HTB.out).1
    have h2:=HA.out
    rw [hD] at h1
    exact ⟨by omega,h1⟩
   replace HI:Hid (RS b s i W):=HI.out.grow hgW
   replace HTA:Hid (TB A (.string ⟨#[]⟩) .nilFunc 0 0 0 ⟨#[]⟩ 0 W):=HTA.out.grow hgW
   replace HTB:Hid (TB (A+1) (.string ⟨#[]⟩) .nilFunc 0 0 0 ⟨#[]⟩ 0 W):=HTB.out.grow hgW
   replace HSR:Hid (SR (A+2) W):=HSR.out.growb (gb_weak hgW (some b)) HBC.out.2.2.1
   replace HG:Hid (w.grownBy W (some b)):=gb_trans HG.out (gb_weak hgW _)
   have d0:W.cell? ⟨D,0,none⟩=some (.string ⟨#[62,61]⟩):=by rw [Lib.cell_of_heap HDR.out];rfl
   try rw [hW]
   try rw [hD]
   clear hgW hW hD s0 s1 hW0 HD0 k0 k1 kf
   have CTk:Hid (∀w,RS b s i w->Calls Tryz.prog 60 #[.pointer (some ⟨b,0,none⟩),.string ⟨#[62,61]⟩] w fun e w'=>e=.returned (.bool (sgA l i 0))/\RS b s (if sgA l i 0=true then i+2 else i) w'/\w.grownBy w' (some b)):=fun w h=>CT.out 0 ⟨#[62,61]⟩ w rfl h
   cases hp:sgA l i 0 with
   | true =>
    rw [hp] at CTk
    have CTq:Hid (∀w,RS b s i w->Calls Tryz.prog 60 #[.pointer (some ⟨b,0,none⟩),.string ⟨#[62,61]⟩] w fun e w'=>e=.returned (.bool true)/\RS b s (i+2) w'/\w.grownBy w' (some b)):=CTk.out
    have HP:Hid (sgA l i 0=true):=hp
    clear hp CTk
    go_region_held3 (fun w'=>w'.cell? ⟨D,0,none⟩=some (.string ⟨#[62,61]⟩)) ((first | (simp only [cell_drew];assumption) | (refine World.grownBy.cell (by assumption) (by assumption) ?_;simpa using HDA.out.1))) (first | (go_at_call 60;refine (CTq.out _ (by first | exact HI.out | exact HI.out.drew 1)).mono ?_;rintro e u1 ⟨rfl,hr,hg⟩))
    have hg':=gb_undrew hg
    have HD1:Hid (u1.heap[D]?=some (.cells #[.string ⟨#[62,61]⟩,.func (.func 123) #[] #[]] 143 (0,0))):=by show _=_;rw [hg'.block D ((Array.getElem?_eq_some_iff.1 HDR.out).1) (by simpa using HDA.out.1)];exact HDR.out
    replace HI:Hid (RS b s (i+2) u1):=hr
    replace HTA:Hid (TB A (.string ⟨#[]⟩) .nilFunc 0 0 0 ⟨#[]⟩ 0 u1):=HTA.out.growb hg' (Ne.symm HBC.out.1)
    replace HTB:Hid (TB (A+1) (.string ⟨#[]⟩) .nilFunc 0 0 0 ⟨#[]⟩ 0 u1):=HTB.out.growb hg' (Ne.symm HBC.out.2.1)
    replace HSR:Hid (SR (A+2) u1):=HSR.out.growb hg' HBC.out.2.2.1
    replace HG:Hid (w.grownBy u1 (some b)):=gb_trans HG.out hg'
    clear hg hg' hr HDR d0 stf
    have HOUT:Hid (rdSign l i=(1,i+2)):=sign0 l i  HP.out
    obtain ⟨hsg,hj⟩:sg=1/\j=i+2:=by have:=HSG.out.symm.trans HOUT.out;simpa using this
    rw [hj] at CPJ
    have HF:Hid (signF sg=123/\(⟨#[62,61]⟩:ByteArray).toList.isEmpty=decide (sg < 0)):=by rw [hsg];exact ⟨rfl,(emp_f2 (by decide)).trans (by decide)⟩
    clear hsg hj HNO HSG HOUT CT CS
    have stf:∀(a:Addr) (m:Mode) (w:World),(store a (.func (.func 123) #[] #[]) m).run Tryz.prog w=stored Tryz.prog w a (.func (.func 123) #[] #[]) m:=fun a m w=>run_store Tryz.prog w a _ m rfl
    have d0:u1.cell? ⟨D,0,none⟩=some (.string ⟨#[62,61]⟩):=by rw [Lib.cell_of_heap HD1.out];rfl
    have d1:u1.cell? ⟨D,1,none⟩=some (.func (.func 123) #[] #[]):=by rw [Lib.cell_of_heap HD1.out];rfl
    obtain ⟨b0,b1,b2,b3,b4,b5,b6,b7⟩:=HTB.out.cells
    have bf:=HTB.out.f
    go_wp2_with (first | (go_at_call 108;refine (CPJ.out _ ((HI.out.other HBC.out.2.1 _ _).other HBC.out.2.1 _ _)).mono ?_))
    rintro e u2 ⟨x1,x2,x3,P,n,rfl,hr,hg,hok⟩
    have HR2:Hid (RS b s R.2.1 u2):=hr
    replace HTB:Hid (TB (A+1) (.string ⟨#[62,61]⟩) (.func (.func 123) #[] #[]) 0 0 0 ⟨#[]⟩ 0 u2):=(HTB.out.set01 _ _).growb hg (Ne.symm HBC.out.2.1)
    replace HTA:Hid (TB A (.string ⟨#[]⟩) .nilFunc 0 0 0 ⟨#[]⟩ 0 u2):=((HTA.out.other HBC.out.2.2.2 _ _).other HBC.out.2.2.2 _ _).growb hg (Ne.symm HBC.out.1)
    replace HG:Hid (w.grownBy u2 (some b)):=gb_trans (gb_new (gb_new HG.out HWA.out.2 _ _) HWA.out.2 _ _) hg
    have HOK:Hid (R.1=0->paAgg x1 x2 x3 P n=paVal R.2.2):=hok
    clear hr hg hok b0 b1 b2 b3 b4 b5 b6 b7 bf d0 d1
    obtain ⟨b0,b1,b2,b3,b4,b5,b6,b7⟩:=HTB.out.cells
    have bf:=HTB.out.f
    obtain ⟨a0,a1,a2,a3,a4,a5,a6,a7⟩:=HTA.out.cells
    have af:=HTA.out.f
    obtain ⟨E,hE⟩:∃E,R.1=E:=⟨_,rfl⟩
    have HE:Hid (R.1=E):=hE
    rw [hE]
    clear hE
    go_wp2
    have hrow:TB A (.string ⟨#[62,61]⟩) (.func (.func 123) #[] #[]) x1 x2 x3 P n (put8 (put26 u2 (A+1) x1 x2 x3 P n) A (.string ⟨#[62,61]⟩) (.func (.func 123) #[] #[]) x1 x2 x3 P n):=put8_row (put26_tb HTA.out HBC.out.2.2.2 _ _ _ _ _) _ _ _ _ _
    refine bodyPost_ret (res_row_tmp (p:=2) (u:=3) rfl _ _ A _ _ (0,0) _ rfl hrow Tryz.underlying147 rfl (by kernel_rfl)) rfl ?_
    refine ⟨⟨#[62,61]⟩,x1,x2,x3,P,n,?_,HF.out.2,put8_rs (put26_rs HR2.out HBC.out.2.1 _ _ _ _ _) HBC.out.1 _ _ _ _ _ _ _,put8_gb (put26_gb HG.out HWA.out.2 _ _ _ _ _) HWA.out.1 _ _ _ _ _ _ _,HOK.out⟩
    rw [HF.out.1,HE.out];rfl
   | false =>
    rw [hp] at CTk
    have CTq:Hid (∀w,RS b s i w->Calls Tryz.prog 60 #[.pointer (some ⟨b,0,none⟩),.string ⟨#[62,61]⟩] w fun e w'=>e=.returned (.bool false)/\RS b s (i) w'/\w.grownBy w' (some b)):=CTk.out
    have HP:Hid (sgA l i 0=false):=hp
    clear hp CTk
    go_region_held3 (fun w'=>w'.cell? ⟨D,0,none⟩=some (.string ⟨#[62,61]⟩)) ((first | (simp only [cell_drew];assumption) | (refine World.grownBy.cell (by assumption) (by assumption) ?_;simpa using HDA.out.1))) (first | (go_at_call 60;refine (CTq.out _ (by first | exact HI.out | exact HI.out.drew 1)).mono ?_;rintro e u1 ⟨rfl,hr,hg⟩))
    have hg':=gb_undrew hg
    have HD1:Hid (u1.heap[D]?=some (.cells #[.string ⟨#[62,61]⟩,.func (.func 123) #[] #[]] 143 (0,0))):=by show _=_;rw [hg'.block D ((Array.getElem?_eq_some_iff.1 HDR.out).1) (by simpa using HDA.out.1)];exact HDR.out
    replace HI:Hid (RS b s (i) u1):=hr
    replace HTA:Hid (TB A (.string ⟨#[]⟩) .nilFunc 0 0 0 ⟨#[]⟩ 0 u1):=HTA.out.growb hg' (Ne.symm HBC.out.1)
    replace HTB:Hid (TB (A+1) (.string ⟨#[]⟩) .nilFunc 0 0 0 ⟨#[]⟩ 0 u1):=HTB.out.growb hg' (Ne.symm HBC.out.2.1)
    replace HSR:Hid (SR (A+2) u1):=HSR.out.growb hg' HBC.out.2.2.1
    replace HG:Hid (w.grownBy u1 (some b)):=gb_trans HG.out hg'
    clear hg hg' hr HDR d0 stf
    go_wp2
    go_roundw
    case rel=>exact ⟨1,rfl,by omega,fun m hm=>by rcases Nat.lt_succ_iff_lt_or_eq.1 hm with h | h;exact HNO.out m h;rw [h];exact HP.out,HI.out,HTA.out,HTB.out,HSR.out,HG.out⟩
    case measure=>simp [intOf]
  ·have s0:wr.cell? ⟨A+2,2,none⟩=some (.string ⟨#[60,61]⟩):=by rw [Lib.cell_of_heap (show _=_ from HSR.out)];rfl
   have s1:wr.cell? ⟨A+2,3,none⟩=some (.func (.func 124) #[] #[]):=by rw [Lib.cell_of_heap (show _=_ from HSR.out)];rfl
   obtain ⟨D,hD⟩:∃D,wr.heap.size=D:=⟨_,rfl⟩
   obtain ⟨W0,hW0⟩:∃W0,wr.alloc (.cells #[.string ⟨#[]⟩,.nilFunc] 143)=W0:=⟨_,rfl⟩
   have HD0:Hid (W0.heap[D]?=some (.cells #[.string ⟨#[]⟩,.nilFunc] 143 (0,0))):=by show _=_;rw [<-hW0,<-hD];exact heap_alloc_new wr _
   have k0:W0.cell? ⟨D,0,none⟩=some (.string ⟨#[]⟩):=by rw [Lib.cell_of_heap HD0.out];rfl
   have k1:W0.cell? ⟨D,1,none⟩=some .nilFunc:=by rw [Lib.cell_of_heap HD0.out];rfl
   have kf:∀o,W0.frozen? ⟨D,o,none⟩=false:=fun o=>Lib.frozen_of_heap HD0.out o
   have stf:∀(a:Addr) (m:Mode) (w:World),(store a (.func (.func 124) #[] #[]) m).run Tryz.prog w=stored Tryz.prog w a (.func (.func 124) #[] #[]) m:=fun a m w=>run_store Tryz.prog w a _ m rfl
   go_wp2_with (fail)
   obtain ⟨W,hW⟩:∃W,(W0.setCell ⟨D,0,none⟩ (.string ⟨#[60,61]⟩)).setCell ⟨D,1,none⟩ (.func (.func 124) #[] #[])=W:=⟨_,rfl⟩
   have hgW:wr.grownBy W none:=by rw [<-hW];exact gb_new0 (gb_new0 (by rw [<-hW0];exact gb_alloc (gb_refl wr none) _) (Nat.le_of_eq hD) _ _) (Nat.le_of_eq hD) _ _
   have HDR:Hid (W.heap[D]?=some (.cells #[.string ⟨#[60,61]⟩,.func (.func 124) #[] #[]] 143 (0,0))):=by show _=_;have h0:=HD0.out;rw [<-hW];simp [World.setCell,Array.getElem?_modify,h0]
   have HDA:Hid (D ≠ b/\A+1 < D):=by
    have h1:=(Array.getElem?_eq_some_iff.1 HTB.out).1
    have h2:=HA.out
    rw [hD] at h1
    exact ⟨by omega,h1⟩
   replace HI:Hid (RS b s i W):=HI.out.grow hgW
   replace HTA:Hid (TB A (.string ⟨#[]⟩) .nilFunc 0 0 0 ⟨#[]⟩ 0 W):=HTA.out.grow hgW
   replace HTB:Hid (TB (A+1) (.string ⟨#[]⟩) .nilFunc 0 0 0 ⟨#[]⟩ 0 W):=HTB.out.grow hgW
   replace HSR:Hid (SR (A+2) W):=HSR.out.growb (gb_weak hgW (some b)) HBC.out.2.2.1
   replace HG:Hid (w.grownBy W (some b)):=gb_trans HG.out (gb_weak hgW _)
   have d0:W.cell? ⟨D,0,none⟩=some (.string ⟨#[60,61]⟩):=by rw [Lib.cell_of_heap HDR.out];rfl
   try rw [hW]
   try rw [hD]
   clear hgW hW hD s0 s1 hW0 HD0 k0 k1 kf
   have CTk:Hid (∀w,RS b s i w->Calls Tryz.prog 60 #[.pointer (some ⟨b,0,none⟩),.string ⟨#[60,61]⟩] w fun e w'=>e=.returned (.bool (sgA l i 1))/\RS b s (if sgA l i 1=true then i+2 else i) w'/\w.grownBy w' (some b)):=fun w h=>CT.out 1 ⟨#[60,61]⟩ w rfl h
   cases hp:sgA l i 1 with
   | true =>
    rw [hp] at CTk
    have CTq:Hid (∀w,RS b s i w->Calls Tryz.prog 60 #[.pointer (some ⟨b,0,none⟩),.string ⟨#[60,61]⟩] w fun e w'=>e=.returned (.bool true)/\RS b s (i+2) w'/\w.grownBy w' (some b)):=CTk.out
    have HP:Hid (sgA l i 1=true):=hp
    clear hp CTk
    go_region_held3 (fun w'=>w'.cell? ⟨D,0,none⟩=some (.string ⟨#[60,61]⟩)) ((first | (simp only [cell_drew];assumption) | (refine World.grownBy.cell (by assumption) (by assumption) ?_;simpa using HDA.out.1))) (first | (go_at_call 60;refine (CTq.out _ (by first | exact HI.out | exact HI.out.drew 1)).mono ?_;rintro e u1 ⟨rfl,hr,hg⟩))
    have hg':=gb_undrew hg
    have HD1:Hid (u1.heap[D]?=some (.cells #[.string ⟨#[60,61]⟩,.func (.func 124) #[] #[]] 143 (0,0))):=by show _=_;rw [hg'.block D ((Array.getElem?_eq_some_iff.1 HDR.out).1) (by simpa using HDA.out.1)];exact HDR.out
    replace HI:Hid (RS b s (i+2) u1):=hr
    replace HTA:Hid (TB A (.string ⟨#[]⟩) .nilFunc 0 0 0 ⟨#[]⟩ 0 u1):=HTA.out.growb hg' (Ne.symm HBC.out.1)
    replace HTB:Hid (TB (A+1) (.string ⟨#[]⟩) .nilFunc 0 0 0 ⟨#[]⟩ 0 u1):=HTB.out.growb hg' (Ne.symm HBC.out.2.1)
    replace HSR:Hid (SR (A+2) u1):=HSR.out.growb hg' HBC.out.2.2.1
    replace HG:Hid (w.grownBy u1 (some b)):=gb_trans HG.out hg'
    clear hg hg' hr HDR d0 stf
    have HOUT:Hid (rdSign l i=(2,i+2)):=sign1 l i (HNO.out 0 (by omega)) HP.out
    obtain ⟨hsg,hj⟩:sg=2/\j=i+2:=by have:=HSG.out.symm.trans HOUT.out;simpa using this
    rw [hj] at CPJ
    have HF:Hid (signF sg=124/\(⟨#[60,61]⟩:ByteArray).toList.isEmpty=decide (sg < 0)):=by rw [hsg];exact ⟨rfl,(emp_f2 (by decide)).trans (by decide)⟩
    clear hsg hj HNO HSG HOUT CT CS
    have stf:∀(a:Addr) (m:Mode) (w:World),(store a (.func (.func 124) #[] #[]) m).run Tryz.prog w=stored Tryz.prog w a (.func (.func 124) #[] #[]) m:=fun a m w=>run_store Tryz.prog w a _ m rfl
    have d0:u1.cell? ⟨D,0,none⟩=some (.string ⟨#[60,61]⟩):=by rw [Lib.cell_of_heap HD1.out];rfl
    have d1:u1.cell? ⟨D,1,none⟩=some (.func (.func 124) #[] #[]):=by rw [Lib.cell_of_heap HD1.out];rfl
    obtain ⟨b0,b1,b2,b3,b4,b5,b6,b7⟩:=HTB.out.cells
    have bf:=HTB.out.f
    go_wp2_with (first | (go_at_call 108;refine (CPJ.out _ ((HI.out.other HBC.out.2.1 _ _).other HBC.out.2.1 _ _)).mono ?_))
    rintro e u2 ⟨x1,x2,x3,P,n,rfl,hr,hg,hok⟩
    have HR2:Hid (RS b s R.2.1 u2):=hr
    replace HTB:Hid (TB (A+1) (.string ⟨#[60,61]⟩) (.func (.func 124) #[] #[]) 0 0 0 ⟨#[]⟩ 0 u2):=(HTB.out.set01 _ _).growb hg (Ne.symm HBC.out.2.1)
    replace HTA:Hid (TB A (.string ⟨#[]⟩) .nilFunc 0 0 0 ⟨#[]⟩ 0 u2):=((HTA.out.other HBC.out.2.2.2 _ _).other HBC.out.2.2.2 _ _).growb hg (Ne.symm HBC.out.1)
    replace HG:Hid (w.grownBy u2 (some b)):=gb_trans (gb_new (gb_new HG.out HWA.out.2 _ _) HWA.out.2 _ _) hg
    have HOK:Hid (R.1=0->paAgg x1 x2 x3 P n=paVal R.2.2):=hok
    clear hr hg hok b0 b1 b2 b3 b4 b5 b6 b7 bf d0 d1
    obtain ⟨b0,b1,b2,b3,b4,b5,b6,b7⟩:=HTB.out.cells
    have bf:=HTB.out.f
    obtain ⟨a0,a1,a2,a3,a4,a5,a6,a7⟩:=HTA.out.cells
    have af:=HTA.out.f
    obtain ⟨E,hE⟩:∃E,R.1=E:=⟨_,rfl⟩
    have HE:Hid (R.1=E):=hE
    rw [hE]
    clear hE
    go_wp2
    have hrow:TB A (.string ⟨#[60,61]⟩) (.func (.func 124) #[] #[]) x1 x2 x3 P n (put8 (put26 u2 (A+1) x1 x2 x3 P n) A (.string ⟨#[60,61]⟩) (.func (.func 124) #[] #[]) x1 x2 x3 P n):=put8_row (put26_tb HTA.out HBC.out.2.2.2 _ _ _ _ _) _ _ _ _ _
    refine bodyPost_ret (res_row_tmp (p:=2) (u:=3) rfl _ _ A _ _ (0,0) _ rfl hrow Tryz.underlying147 rfl (by kernel_rfl)) rfl ?_
    refine ⟨⟨#[60,61]⟩,x1,x2,x3,P,n,?_,HF.out.2,put8_rs (put26_rs HR2.out HBC.out.2.1 _ _ _ _ _) HBC.out.1 _ _ _ _ _ _ _,put8_gb (put26_gb HG.out HWA.out.2 _ _ _ _ _) HWA.out.1 _ _ _ _ _ _ _,HOK.out⟩
    rw [HF.out.1,HE.out];rfl
   | false =>
    rw [hp] at CTk
    have CTq:Hid (∀w,RS b s i w->Calls Tryz.prog 60 #[.pointer (some ⟨b,0,none⟩),.string ⟨#[60,61]⟩] w fun e w'=>e=.returned (.bool false)/\RS b s (i) w'/\w.grownBy w' (some b)):=CTk.out
    have HP:Hid (sgA l i 1=false):=hp
    clear hp CTk
    go_region_held3 (fun w'=>w'.cell? ⟨D,0,none⟩=some (.string ⟨#[60,61]⟩)) ((first | (simp only [cell_drew];assumption) | (refine World.grownBy.cell (by assumption) (by assumption) ?_;simpa using HDA.out.1))) (first | (go_at_call 60;refine (CTq.out _ (by first | exact HI.out | exact HI.out.drew 1)).mono ?_;rintro e u1 ⟨rfl,hr,hg⟩))
    have hg':=gb_undrew hg
    have HD1:Hid (u1.heap[D]?=some (.cells #[.string ⟨#[60,61]⟩,.func (.func 124) #[] #[]] 143 (0,0))):=by show _=_;rw [hg'.block D ((Array.getElem?_eq_some_iff.1 HDR.out).1) (by simpa using HDA.out.1)];exact HDR.out
    replace HI:Hid (RS b s (i) u1):=hr
    replace HTA:Hid (TB A (.string ⟨#[]⟩) .nilFunc 0 0 0 ⟨#[]⟩ 0 u1):=HTA.out.growb hg' (Ne.symm HBC.out.1)
    replace HTB:Hid (TB (A+1) (.string ⟨#[]⟩) .nilFunc 0 0 0 ⟨#[]⟩ 0 u1):=HTB.out.growb hg' (Ne.symm HBC.out.2.1)
    replace HSR:Hid (SR (A+2) u1):=HSR.out.growb hg' HBC.out.2.2.1
    replace HG:Hid (w.grownBy u1 (some b)):=gb_trans HG.out hg'
    clear hg hg' hr HDR d0 stf
    go_wp2
    go_roundw
    case rel=>exact ⟨2,rfl,by omega,fun m hm=>by rcases Nat.lt_succ_iff_lt_or_eq.1 hm with h | h;exact HNO.out m h;rw [h];exact HP.out,HI.out,HTA.out,HTB.out,HSR.out,HG.out⟩
    case measure=>simp [intOf]
  ·have s0:wr.cell? ⟨A+2,4,none⟩=some (.string ⟨#[62]⟩):=by rw [Lib.cell_of_heap (show _=_ from HSR.out)];rfl
   have s1:wr.cell? ⟨A+2,5,none⟩=some (.func (.func 125) #[] #[]):=by rw [Lib.cell_of_heap (show _=_ from HSR.out)];rfl
   obtain ⟨D,hD⟩:∃D,wr.heap.size=D:=⟨_,rfl⟩
   obtain ⟨W0,hW0⟩:∃W0,wr.alloc (.cells #[.string ⟨#[]⟩,.nilFunc] 143)=W0:=⟨_,rfl⟩
   have HD0:Hid (W0.heap[D]?=some (.cells #[.string ⟨#[]⟩,.nilFunc] 143 (0,0))):=by show _=_;rw [<-hW0,<-hD];exact heap_alloc_new wr _
   have k0:W0.cell? ⟨D,0,none⟩=some (.string ⟨#[]⟩):=by rw [Lib.cell_of_heap HD0.out];rfl
   have k1:W0.cell? ⟨D,1,none⟩=some .nilFunc:=by rw [Lib.cell_of_heap HD0.out];rfl
   have kf:∀o,W0.frozen? ⟨D,o,none⟩=false:=fun o=>Lib.frozen_of_heap HD0.out o
   have stf:∀(a:Addr) (m:Mode) (w:World),(store a (.func (.func 125) #[] #[]) m).run Tryz.prog w=stored Tryz.prog w a (.func (.func 125) #[] #[]) m:=fun a m w=>run_store Tryz.prog w a _ m rfl
   go_wp2_with (fail)
   obtain ⟨W,hW⟩:∃W,(W0.setCell ⟨D,0,none⟩ (.string ⟨#[62]⟩)).setCell ⟨D,1,none⟩ (.func (.func 125) #[] #[])=W:=⟨_,rfl⟩
   have hgW:wr.grownBy W none:=by rw [<-hW];exact gb_new0 (gb_new0 (by rw [<-hW0];exact gb_alloc (gb_refl wr none) _) (Nat.le_of_eq hD) _ _) (Nat.le_of_eq hD) _ _
   have HDR:Hid (W.heap[D]?=some (.cells #[.string ⟨#[62]⟩,.func (.func 125) #[] #[]] 143 (0,0))):=by show _=_;have h0:=HD0.out;rw [<-hW];simp [World.setCell,Array.getElem?_modify,h0]
   have HDA:Hid (D ≠ b/\A+1 < D):=by
    have h1:=(Array.getElem?_eq_some_iff.1 HTB.out).1
    have h2:=HA.out
    rw [hD] at h1
    exact ⟨by omega,h1⟩
   replace HI:Hid (RS b s i W):=HI.out.grow hgW
   replace HTA:Hid (TB A (.string ⟨#[]⟩) .nilFunc 0 0 0 ⟨#[]⟩ 0 W):=HTA.out.grow hgW
   replace HTB:Hid (TB (A+1) (.string ⟨#[]⟩) .nilFunc 0 0 0 ⟨#[]⟩ 0 W):=HTB.out.grow hgW
   replace HSR:Hid (SR (A+2) W):=HSR.out.growb (gb_weak hgW (some b)) HBC.out.2.2.1
   replace HG:Hid (w.grownBy W (some b)):=gb_trans HG.out (gb_weak hgW _)
   have d0:W.cell? ⟨D,0,none⟩=some (.string ⟨#[62]⟩):=by rw [Lib.cell_of_heap HDR.out];rfl
   try rw [hW]
   try rw [hD]
   clear hgW hW hD s0 s1 hW0 HD0 k0 k1 kf
   have CTk:Hid (∀w,RS b s i w->Calls Tryz.prog 60 #[.pointer (some ⟨b,0,none⟩),.string ⟨#[62]⟩] w fun e w'=>e=.returned (.bool (sgA l i 2))/\RS b s (if sgA l i 2=true then i+1 else i) w'/\w.grownBy w' (some b)):=fun w h=>CT.out 2 ⟨#[62]⟩ w rfl h
   cases hp:sgA l i 2 with
   | true =>
    rw [hp] at CTk
    have CTq:Hid (∀w,RS b s i w->Calls Tryz.prog 60 #[.pointer (some ⟨b,0,none⟩),.string ⟨#[62]⟩] w fun e w'=>e=.returned (.bool true)/\RS b s (i+1) w'/\w.grownBy w' (some b)):=CTk.out
    have HP:Hid (sgA l i 2=true):=hp
    clear hp CTk
    go_region_held3 (fun w'=>w'.cell? ⟨D,0,none⟩=some (.string ⟨#[62]⟩)) ((first | (simp only [cell_drew];assumption) | (refine World.grownBy.cell (by assumption) (by assumption) ?_;simpa using HDA.out.1))) (first | (go_at_call 60;refine (CTq.out _ (by first | exact HI.out | exact HI.out.drew 1)).mono ?_;rintro e u1 ⟨rfl,hr,hg⟩))
    have hg':=gb_undrew hg
    have HD1:Hid (u1.heap[D]?=some (.cells #[.string ⟨#[62]⟩,.func (.func 125) #[] #[]] 143 (0,0))):=by show _=_;rw [hg'.block D ((Array.getElem?_eq_some_iff.1 HDR.out).1) (by simpa using HDA.out.1)];exact HDR.out
    replace HI:Hid (RS b s (i+1) u1):=hr
    replace HTA:Hid (TB A (.string ⟨#[]⟩) .nilFunc 0 0 0 ⟨#[]⟩ 0 u1):=HTA.out.growb hg' (Ne.symm HBC.out.1)
    replace HTB:Hid (TB (A+1) (.string ⟨#[]⟩) .nilFunc 0 0 0 ⟨#[]⟩ 0 u1):=HTB.out.growb hg' (Ne.symm HBC.out.2.1)
    replace HSR:Hid (SR (A+2) u1):=HSR.out.growb hg' HBC.out.2.2.1
    replace HG:Hid (w.grownBy u1 (some b)):=gb_trans HG.out hg'
    clear hg hg' hr HDR d0 stf
    have HOUT:Hid (rdSign l i=(3,i+1)):=sign2 l i (HNO.out 0 (by omega)) (HNO.out 1 (by omega)) HP.out
    obtain ⟨hsg,hj⟩:sg=3/\j=i+1:=by have:=HSG.out.symm.trans HOUT.out;simpa using this
    rw [hj] at CPJ
    have HF:Hid (signF sg=125/\(⟨#[62]⟩:ByteArray).toList.isEmpty=decide (sg < 0)):=by rw [hsg];exact ⟨rfl,(emp_f2 (by decide)).trans (by decide)⟩
    clear hsg hj HNO HSG HOUT CT CS
    have stf:∀(a:Addr) (m:Mode) (w:World),(store a (.func (.func 125) #[] #[]) m).run Tryz.prog w=stored Tryz.prog w a (.func (.func 125) #[] #[]) m:=fun a m w=>run_store Tryz.prog w a _ m rfl
    have d0:u1.cell? ⟨D,0,none⟩=some (.string ⟨#[62]⟩):=by rw [Lib.cell_of_heap HD1.out];rfl
    have d1:u1.cell? ⟨D,1,none⟩=some (.func (.func 125) #[] #[]):=by rw [Lib.cell_of_heap HD1.out];rfl
    obtain ⟨b0,b1,b2,b3,b4,b5,b6,b7⟩:=HTB.out.cells
    have bf:=HTB.out.f
    go_wp2_with (first | (go_at_call 108;refine (CPJ.out _ ((HI.out.other HBC.out.2.1 _ _).other HBC.out.2.1 _ _)).mono ?_))
    rintro e u2 ⟨x1,x2,x3,P,n,rfl,hr,hg,hok⟩
    have HR2:Hid (RS b s R.2.1 u2):=hr
    replace HTB:Hid (TB (A+1) (.string ⟨#[62]⟩) (.func (.func 125) #[] #[]) 0 0 0 ⟨#[]⟩ 0 u2):=(HTB.out.set01 _ _).growb hg (Ne.symm HBC.out.2.1)
    replace HTA:Hid (TB A (.string ⟨#[]⟩) .nilFunc 0 0 0 ⟨#[]⟩ 0 u2):=((HTA.out.other HBC.out.2.2.2 _ _).other HBC.out.2.2.2 _ _).growb hg (Ne.symm HBC.out.1)
    replace HG:Hid (w.grownBy u2 (some b)):=gb_trans (gb_new (gb_new HG.out HWA.out.2 _ _) HWA.out.2 _ _) hg
    have HOK:Hid (R.1=0->paAgg x1 x2 x3 P n=paVal R.2.2):=hok
    clear hr hg hok b0 b1 b2 b3 b4 b5 b6 b7 bf d0 d1
    obtain ⟨b0,b1,b2,b3,b4,b5,b6,b7⟩:=HTB.out.cells
    have bf:=HTB.out.f
    obtain ⟨a0,a1,a2,a3,a4,a5,a6,a7⟩:=HTA.out.cells
    have af:=HTA.out.f
    obtain ⟨E,hE⟩:∃E,R.1=E:=⟨_,rfl⟩
    have HE:Hid (R.1=E):=hE
    rw [hE]
    clear hE
    go_wp2
    have hrow:TB A (.string ⟨#[62]⟩) (.func (.func 125) #[] #[]) x1 x2 x3 P n (put8 (put26 u2 (A+1) x1 x2 x3 P n) A (.string ⟨#[62]⟩) (.func (.func 125) #[] #[]) x1 x2 x3 P n):=put8_row (put26_tb HTA.out HBC.out.2.2.2 _ _ _ _ _) _ _ _ _ _
    refine bodyPost_ret (res_row_tmp (p:=2) (u:=3) rfl _ _ A _ _ (0,0) _ rfl hrow Tryz.underlying147 rfl (by kernel_rfl)) rfl ?_
    refine ⟨⟨#[62]⟩,x1,x2,x3,P,n,?_,HF.out.2,put8_rs (put26_rs HR2.out HBC.out.2.1 _ _ _ _ _) HBC.out.1 _ _ _ _ _ _ _,put8_gb (put26_gb HG.out HWA.out.2 _ _ _ _ _) HWA.out.1 _ _ _ _ _ _ _,HOK.out⟩
    rw [HF.out.1,HE.out];rfl
   | false =>
    rw [hp] at CTk
    have CTq:Hid (∀w,RS b s i w->Calls Tryz.prog 60 #[.pointer (some ⟨b,0,none⟩),.string ⟨#[62]⟩] w fun e w'=>e=.returned (.bool false)/\RS b s (i) w'/\w.grownBy w' (some b)):=CTk.out
    have HP:Hid (sgA l i 2=false):=hp
    clear hp CTk
    go_region_held3 (fun w'=>w'.cell? ⟨D,0,none⟩=some (.string ⟨#[62]⟩)) ((first | (simp only [cell_drew];assumption) | (refine World.grownBy.cell (by assumption) (by assumption) ?_;simpa using HDA.out.1))) (first | (go_at_call 60;refine (CTq.out _ (by first | exact HI.out | exact HI.out.drew 1)).mono ?_;rintro e u1 ⟨rfl,hr,hg⟩))
    have hg':=gb_undrew hg
    have HD1:Hid (u1.heap[D]?=some (.cells #[.string ⟨#[62]⟩,.func (.func 125) #[] #[]] 143 (0,0))):=by show _=_;rw [hg'.block D ((Array.getElem?_eq_some_iff.1 HDR.out).1) (by simpa using HDA.out.1)];exact HDR.out
    replace HI:Hid (RS b s (i) u1):=hr
    replace HTA:Hid (TB A (.string ⟨#[]⟩) .nilFunc 0 0 0 ⟨#[]⟩ 0 u1):=HTA.out.growb hg' (Ne.symm HBC.out.1)
    replace HTB:Hid (TB (A+1) (.string ⟨#[]⟩) .nilFunc 0 0 0 ⟨#[]⟩ 0 u1):=HTB.out.growb hg' (Ne.symm HBC.out.2.1)
    replace HSR:Hid (SR (A+2) u1):=HSR.out.growb hg' HBC.out.2.2.1
    replace HG:Hid (w.grownBy u1 (some b)):=gb_trans HG.out hg'
    clear hg hg' hr HDR d0 stf
    go_wp2
    go_roundw
    case rel=>exact ⟨3,rfl,by omega,fun m hm=>by rcases Nat.lt_succ_iff_lt_or_eq.1 hm with h | h;exact HNO.out m h;rw [h];exact HP.out,HI.out,HTA.out,HTB.out,HSR.out,HG.out⟩
    case measure=>simp [intOf]
  ·have s0:wr.cell? ⟨A+2,6,none⟩=some (.string ⟨#[60]⟩):=by rw [Lib.cell_of_heap (show _=_ from HSR.out)];rfl
   have s1:wr.cell? ⟨A+2,7,none⟩=some (.func (.func 126) #[] #[]):=by rw [Lib.cell_of_heap (show _=_ from HSR.out)];rfl
   obtain ⟨D,hD⟩:∃D,wr.heap.size=D:=⟨_,rfl⟩
   obtain ⟨W0,hW0⟩:∃W0,wr.alloc (.cells #[.string ⟨#[]⟩,.nilFunc] 143)=W0:=⟨_,rfl⟩
   have HD0:Hid (W0.heap[D]?=some (.cells #[.string ⟨#[]⟩,.nilFunc] 143 (0,0))):=by show _=_;rw [<-hW0,<-hD];exact heap_alloc_new wr _
   have k0:W0.cell? ⟨D,0,none⟩=some (.string ⟨#[]⟩):=by rw [Lib.cell_of_heap HD0.out];rfl
   have k1:W0.cell? ⟨D,1,none⟩=some .nilFunc:=by rw [Lib.cell_of_heap HD0.out];rfl
   have kf:∀o,W0.frozen? ⟨D,o,none⟩=false:=fun o=>Lib.frozen_of_heap HD0.out o
   have stf:∀(a:Addr) (m:Mode) (w:World),(store a (.func (.func 126) #[] #[]) m).run Tryz.prog w=stored Tryz.prog w a (.func (.func 126) #[] #[]) m:=fun a m w=>run_store Tryz.prog w a _ m rfl
   go_wp2_with (fail)
   obtain ⟨W,hW⟩:∃W,(W0.setCell ⟨D,0,none⟩ (.string ⟨#[60]⟩)).setCell ⟨D,1,none⟩ (.func (.func 126) #[] #[])=W:=⟨_,rfl⟩
   have hgW:wr.grownBy W none:=by rw [<-hW];exact gb_new0 (gb_new0 (by rw [<-hW0];exact gb_alloc (gb_refl wr none) _) (Nat.le_of_eq hD) _ _) (Nat.le_of_eq hD) _ _
   have HDR:Hid (W.heap[D]?=some (.cells #[.string ⟨#[60]⟩,.func (.func 126) #[] #[]] 143 (0,0))):=by show _=_;have h0:=HD0.out;rw [<-hW];simp [World.setCell,Array.getElem?_modify,h0]
   have HDA:Hid (D ≠ b/\A+1 < D):=by
    have h1:=(Array.getElem?_eq_some_iff.1 HTB.out).1
    have h2:=HA.out
    rw [hD] at h1
    exact ⟨by omega,h1⟩
   replace HI:Hid (RS b s i W):=HI.out.grow hgW
   replace HTA:Hid (TB A (.string ⟨#[]⟩) .nilFunc 0 0 0 ⟨#[]⟩ 0 W):=HTA.out.grow hgW
   replace HTB:Hid (TB (A+1) (.string ⟨#[]⟩) .nilFunc 0 0 0 ⟨#[]⟩ 0 W):=HTB.out.grow hgW
   replace HSR:Hid (SR (A+2) W):=HSR.out.growb (gb_weak hgW (some b)) HBC.out.2.2.1
   replace HG:Hid (w.grownBy W (some b)):=gb_trans HG.out (gb_weak hgW _)
   have d0:W.cell? ⟨D,0,none⟩=some (.string ⟨#[60]⟩):=by rw [Lib.cell_of_heap HDR.out];rfl
   try rw [hW]
   try rw [hD]
   clear hgW hW hD s0 s1 hW0 HD0 k0 k1 kf
   have CTk:Hid (∀w,RS b s i w->Calls Tryz.prog 60 #[.pointer (some ⟨b,0,none⟩),.string ⟨#[60]⟩] w fun e w'=>e=.returned (.bool (sgA l i 3))/\RS b s (if sgA l i 3=true then i+1 else i) w'/\w.grownBy w' (some b)):=fun w h=>CT.out 3 ⟨#[60]⟩ w rfl h
   cases hp:sgA l i 3 with
   | true =>
    rw [hp] at CTk
    have CTq:Hid (∀w,RS b s i w->Calls Tryz.prog 60 #[.pointer (some ⟨b,0,none⟩),.string ⟨#[60]⟩] w fun e w'=>e=.returned (.bool true)/\RS b s (i+1) w'/\w.grownBy w' (some b)):=CTk.out
    have HP:Hid (sgA l i 3=true):=hp
    clear hp CTk
    go_region_held3 (fun w'=>w'.cell? ⟨D,0,none⟩=some (.string ⟨#[60]⟩)) ((first | (simp only [cell_drew];assumption) | (refine World.grownBy.cell (by assumption) (by assumption) ?_;simpa using HDA.out.1))) (first | (go_at_call 60;refine (CTq.out _ (by first | exact HI.out | exact HI.out.drew 1)).mono ?_;rintro e u1 ⟨rfl,hr,hg⟩))
    have hg':=gb_undrew hg
    have HD1:Hid (u1.heap[D]?=some (.cells #[.string ⟨#[60]⟩,.func (.func 126) #[] #[]] 143 (0,0))):=by show _=_;rw [hg'.block D ((Array.getElem?_eq_some_iff.1 HDR.out).1) (by simpa using HDA.out.1)];exact HDR.out
    replace HI:Hid (RS b s (i+1) u1):=hr
    replace HTA:Hid (TB A (.string ⟨#[]⟩) .nilFunc 0 0 0 ⟨#[]⟩ 0 u1):=HTA.out.growb hg' (Ne.symm HBC.out.1)
    replace HTB:Hid (TB (A+1) (.string ⟨#[]⟩) .nilFunc 0 0 0 ⟨#[]⟩ 0 u1):=HTB.out.growb hg' (Ne.symm HBC.out.2.1)
    replace HSR:Hid (SR (A+2) u1):=HSR.out.growb hg' HBC.out.2.2.1
    replace HG:Hid (w.grownBy u1 (some b)):=gb_trans HG.out hg'
    clear hg hg' hr HDR d0 stf
    have HOUT:Hid (rdSign l i=(4,i+1)):=sign3 l i (HNO.out 0 (by omega)) (HNO.out 1 (by omega)) (HNO.out 2 (by omega)) HP.out
    obtain ⟨hsg,hj⟩:sg=4/\j=i+1:=by have:=HSG.out.symm.trans HOUT.out;simpa using this
    rw [hj] at CPJ
    have HF:Hid (signF sg=126/\(⟨#[60]⟩:ByteArray).toList.isEmpty=decide (sg < 0)):=by rw [hsg];exact ⟨rfl,(emp_f2 (by decide)).trans (by decide)⟩
    clear hsg hj HNO HSG HOUT CT CS
    have stf:∀(a:Addr) (m:Mode) (w:World),(store a (.func (.func 126) #[] #[]) m).run Tryz.prog w=stored Tryz.prog w a (.func (.func 126) #[] #[]) m:=fun a m w=>run_store Tryz.prog w a _ m rfl
    have d0:u1.cell? ⟨D,0,none⟩=some (.string ⟨#[60]⟩):=by rw [Lib.cell_of_heap HD1.out];rfl
    have d1:u1.cell? ⟨D,1,none⟩=some (.func (.func 126) #[] #[]):=by rw [Lib.cell_of_heap HD1.out];rfl
    obtain ⟨b0,b1,b2,b3,b4,b5,b6,b7⟩:=HTB.out.cells
    have bf:=HTB.out.f
    go_wp2_with (first | (go_at_call 108;refine (CPJ.out _ ((HI.out.other HBC.out.2.1 _ _).other HBC.out.2.1 _ _)).mono ?_))
    rintro e u2 ⟨x1,x2,x3,P,n,rfl,hr,hg,hok⟩
    have HR2:Hid (RS b s R.2.1 u2):=hr
    replace HTB:Hid (TB (A+1) (.string ⟨#[60]⟩) (.func (.func 126) #[] #[]) 0 0 0 ⟨#[]⟩ 0 u2):=(HTB.out.set01 _ _).growb hg (Ne.symm HBC.out.2.1)
    replace HTA:Hid (TB A (.string ⟨#[]⟩) .nilFunc 0 0 0 ⟨#[]⟩ 0 u2):=((HTA.out.other HBC.out.2.2.2 _ _).other HBC.out.2.2.2 _ _).growb hg (Ne.symm HBC.out.1)
    replace HG:Hid (w.grownBy u2 (some b)):=gb_trans (gb_new (gb_new HG.out HWA.out.2 _ _) HWA.out.2 _ _) hg
    have HOK:Hid (R.1=0->paAgg x1 x2 x3 P n=paVal R.2.2):=hok
    clear hr hg hok b0 b1 b2 b3 b4 b5 b6 b7 bf d0 d1
    obtain ⟨b0,b1,b2,b3,b4,b5,b6,b7⟩:=HTB.out.cells
    have bf:=HTB.out.f
    obtain ⟨a0,a1,a2,a3,a4,a5,a6,a7⟩:=HTA.out.cells
    have af:=HTA.out.f
    obtain ⟨E,hE⟩:∃E,R.1=E:=⟨_,rfl⟩
    have HE:Hid (R.1=E):=hE
    rw [hE]
    clear hE
    go_wp2
    have hrow:TB A (.string ⟨#[60]⟩) (.func (.func 126) #[] #[]) x1 x2 x3 P n (put8 (put26 u2 (A+1) x1 x2 x3 P n) A (.string ⟨#[60]⟩) (.func (.func 126) #[] #[]) x1 x2 x3 P n):=put8_row (put26_tb HTA.out HBC.out.2.2.2 _ _ _ _ _) _ _ _ _ _
    refine bodyPost_ret (res_row_tmp (p:=2) (u:=3) rfl _ _ A _ _ (0,0) _ rfl hrow Tryz.underlying147 rfl (by kernel_rfl)) rfl ?_
    refine ⟨⟨#[60]⟩,x1,x2,x3,P,n,?_,HF.out.2,put8_rs (put26_rs HR2.out HBC.out.2.1 _ _ _ _ _) HBC.out.1 _ _ _ _ _ _ _,put8_gb (put26_gb HG.out HWA.out.2 _ _ _ _ _) HWA.out.1 _ _ _ _ _ _ _,HOK.out⟩
    rw [HF.out.1,HE.out];rfl
   | false =>
    rw [hp] at CTk
    have CTq:Hid (∀w,RS b s i w->Calls Tryz.prog 60 #[.pointer (some ⟨b,0,none⟩),.string ⟨#[60]⟩] w fun e w'=>e=.returned (.bool false)/\RS b s (i) w'/\w.grownBy w' (some b)):=CTk.out
    have HP:Hid (sgA l i 3=false):=hp
    clear hp CTk
    go_region_held3 (fun w'=>w'.cell? ⟨D,0,none⟩=some (.string ⟨#[60]⟩)) ((first | (simp only [cell_drew];assumption) | (refine World.grownBy.cell (by assumption) (by assumption) ?_;simpa using HDA.out.1))) (first | (go_at_call 60;refine (CTq.out _ (by first | exact HI.out | exact HI.out.drew 1)).mono ?_;rintro e u1 ⟨rfl,hr,hg⟩))
    have hg':=gb_undrew hg
    have HD1:Hid (u1.heap[D]?=some (.cells #[.string ⟨#[60]⟩,.func (.func 126) #[] #[]] 143 (0,0))):=by show _=_;rw [hg'.block D ((Array.getElem?_eq_some_iff.1 HDR.out).1) (by simpa using HDA.out.1)];exact HDR.out
    replace HI:Hid (RS b s (i) u1):=hr
    replace HTA:Hid (TB A (.string ⟨#[]⟩) .nilFunc 0 0 0 ⟨#[]⟩ 0 u1):=HTA.out.growb hg' (Ne.symm HBC.out.1)
    replace HTB:Hid (TB (A+1) (.string ⟨#[]⟩) .nilFunc 0 0 0 ⟨#[]⟩ 0 u1):=HTB.out.growb hg' (Ne.symm HBC.out.2.1)
    replace HSR:Hid (SR (A+2) u1):=HSR.out.growb hg' HBC.out.2.2.1
    replace HG:Hid (w.grownBy u1 (some b)):=gb_trans HG.out hg'
    clear hg hg' hr HDR d0 stf
    go_wp2
    go_roundw
    case rel=>exact ⟨4,rfl,by omega,fun m hm=>by rcases Nat.lt_succ_iff_lt_or_eq.1 hm with h | h;exact HNO.out m h;rw [h];exact HP.out,HI.out,HTA.out,HTB.out,HSR.out,HG.out⟩
    case measure=>simp [intOf]
  ·have s0:wr.cell? ⟨A+2,8,none⟩=some (.string ⟨#[61]⟩):=by rw [Lib.cell_of_heap (show _=_ from HSR.out)];rfl
   have s1:wr.cell? ⟨A+2,9,none⟩=some (.func (.func 127) #[] #[]):=by rw [Lib.cell_of_heap (show _=_ from HSR.out)];rfl
   obtain ⟨D,hD⟩:∃D,wr.heap.size=D:=⟨_,rfl⟩
   obtain ⟨W0,hW0⟩:∃W0,wr.alloc (.cells #[.string ⟨#[]⟩,.nilFunc] 143)=W0:=⟨_,rfl⟩
   have HD0:Hid (W0.heap[D]?=some (.cells #[.string ⟨#[]⟩,.nilFunc] 143 (0,0))):=by show _=_;rw [<-hW0,<-hD];exact heap_alloc_new wr _
   have k0:W0.cell? ⟨D,0,none⟩=some (.string ⟨#[]⟩):=by rw [Lib.cell_of_heap HD0.out];rfl
   have k1:W0.cell? ⟨D,1,none⟩=some .nilFunc:=by rw [Lib.cell_of_heap HD0.out];rfl
   have kf:∀o,W0.frozen? ⟨D,o,none⟩=false:=fun o=>Lib.frozen_of_heap HD0.out o
   have stf:∀(a:Addr) (m:Mode) (w:World),(store a (.func (.func 127) #[] #[]) m).run Tryz.prog w=stored Tryz.prog w a (.func (.func 127) #[] #[]) m:=fun a m w=>run_store Tryz.prog w a _ m rfl
   go_wp2_with (fail)
   obtain ⟨W,hW⟩:∃W,(W0.setCell ⟨D,0,none⟩ (.string ⟨#[61]⟩)).setCell ⟨D,1,none⟩ (.func (.func 127) #[] #[])=W:=⟨_,rfl⟩
   have hgW:wr.grownBy W none:=by rw [<-hW];exact gb_new0 (gb_new0 (by rw [<-hW0];exact gb_alloc (gb_refl wr none) _) (Nat.le_of_eq hD) _ _) (Nat.le_of_eq hD) _ _
   have HDR:Hid (W.heap[D]?=some (.cells #[.string ⟨#[61]⟩,.func (.func 127) #[] #[]] 143 (0,0))):=by show _=_;have h0:=HD0.out;rw [<-hW];simp [World.setCell,Array.getElem?_modify,h0]
   have HDA:Hid (D ≠ b/\A+1 < D):=by
    have h1:=(Array.getElem?_eq_some_iff.1 HTB.out).1
    have h2:=HA.out
    rw [hD] at h1
    exact ⟨by omega,h1⟩
   replace HI:Hid (RS b s i W):=HI.out.grow hgW
   replace HTA:Hid (TB A (.string ⟨#[]⟩) .nilFunc 0 0 0 ⟨#[]⟩ 0 W):=HTA.out.grow hgW
   replace HTB:Hid (TB (A+1) (.string ⟨#[]⟩) .nilFunc 0 0 0 ⟨#[]⟩ 0 W):=HTB.out.grow hgW
   replace HSR:Hid (SR (A+2) W):=HSR.out.growb (gb_weak hgW (some b)) HBC.out.2.2.1
   replace HG:Hid (w.grownBy W (some b)):=gb_trans HG.out (gb_weak hgW _)
   have d0:W.cell? ⟨D,0,none⟩=some (.string ⟨#[61]⟩):=by rw [Lib.cell_of_heap HDR.out];rfl
   try rw [hW]
   try rw [hD]
   clear hgW hW hD s0 s1 hW0 HD0 k0 k1 kf
   have CTk:Hid (∀w,RS b s i w->Calls Tryz.prog 60 #[.pointer (some ⟨b,0,none⟩),.string ⟨#[61]⟩] w fun e w'=>e=.returned (.bool (sgA l i 4))/\RS b s (if sgA l i 4=true then i+1 else i) w'/\w.grownBy w' (some b)):=fun w h=>CT.out 4 ⟨#[61]⟩ w rfl h
   cases hp:sgA l i 4 with
   | true =>
    rw [hp] at CTk
    have CTq:Hid (∀w,RS b s i w->Calls Tryz.prog 60 #[.pointer (some ⟨b,0,none⟩),.string ⟨#[61]⟩] w fun e w'=>e=.returned (.bool true)/\RS b s (i+1) w'/\w.grownBy w' (some b)):=CTk.out
    have HP:Hid (sgA l i 4=true):=hp
    clear hp CTk
    go_region_held3 (fun w'=>w'.cell? ⟨D,0,none⟩=some (.string ⟨#[61]⟩)) ((first | (simp only [cell_drew];assumption) | (refine World.grownBy.cell (by assumption) (by assumption) ?_;simpa using HDA.out.1))) (first | (go_at_call 60;refine (CTq.out _ (by first | exact HI.out | exact HI.out.drew 1)).mono ?_;rintro e u1 ⟨rfl,hr,hg⟩))
    have hg':=gb_undrew hg
    have HD1:Hid (u1.heap[D]?=some (.cells #[.string ⟨#[61]⟩,.func (.func 127) #[] #[]] 143 (0,0))):=by show _=_;rw [hg'.block D ((Array.getElem?_eq_some_iff.1 HDR.out).1) (by simpa using HDA.out.1)];exact HDR.out
    replace HI:Hid (RS b s (i+1) u1):=hr
    replace HTA:Hid (TB A (.string ⟨#[]⟩) .nilFunc 0 0 0 ⟨#[]⟩ 0 u1):=HTA.out.growb hg' (Ne.symm HBC.out.1)
    replace HTB:Hid (TB (A+1) (.string ⟨#[]⟩) .nilFunc 0 0 0 ⟨#[]⟩ 0 u1):=HTB.out.growb hg' (Ne.symm HBC.out.2.1)
    replace HSR:Hid (SR (A+2) u1):=HSR.out.growb hg' HBC.out.2.2.1
    replace HG:Hid (w.grownBy u1 (some b)):=gb_trans HG.out hg'
    clear hg hg' hr HDR d0 stf
    have HOUT:Hid (rdSign l i=(0,i+1)):=sign4 l i (HNO.out 0 (by omega)) (HNO.out 1 (by omega)) (HNO.out 2 (by omega)) (HNO.out 3 (by omega)) HP.out
    obtain ⟨hsg,hj⟩:sg=0/\j=i+1:=by have:=HSG.out.symm.trans HOUT.out;simpa using this
    rw [hj] at CPJ
    have HF:Hid (signF sg=127/\(⟨#[61]⟩:ByteArray).toList.isEmpty=decide (sg < 0)):=by rw [hsg];exact ⟨rfl,(emp_f2 (by decide)).trans (by decide)⟩
    clear hsg hj HNO HSG HOUT CT CS
    have stf:∀(a:Addr) (m:Mode) (w:World),(store a (.func (.func 127) #[] #[]) m).run Tryz.prog w=stored Tryz.prog w a (.func (.func 127) #[] #[]) m:=fun a m w=>run_store Tryz.prog w a _ m rfl
    have d0:u1.cell? ⟨D,0,none⟩=some (.string ⟨#[61]⟩):=by rw [Lib.cell_of_heap HD1.out];rfl
    have d1:u1.cell? ⟨D,1,none⟩=some (.func (.func 127) #[] #[]):=by rw [Lib.cell_of_heap HD1.out];rfl
    obtain ⟨b0,b1,b2,b3,b4,b5,b6,b7⟩:=HTB.out.cells
    have bf:=HTB.out.f
    go_wp2_with (first | (go_at_call 108;refine (CPJ.out _ ((HI.out.other HBC.out.2.1 _ _).other HBC.out.2.1 _ _)).mono ?_))
    rintro e u2 ⟨x1,x2,x3,P,n,rfl,hr,hg,hok⟩
    have HR2:Hid (RS b s R.2.1 u2):=hr
    replace HTB:Hid (TB (A+1) (.string ⟨#[61]⟩) (.func (.func 127) #[] #[]) 0 0 0 ⟨#[]⟩ 0 u2):=(HTB.out.set01 _ _).growb hg (Ne.symm HBC.out.2.1)
    replace HTA:Hid (TB A (.string ⟨#[]⟩) .nilFunc 0 0 0 ⟨#[]⟩ 0 u2):=((HTA.out.other HBC.out.2.2.2 _ _).other HBC.out.2.2.2 _ _).growb hg (Ne.symm HBC.out.1)
    replace HG:Hid (w.grownBy u2 (some b)):=gb_trans (gb_new (gb_new HG.out HWA.out.2 _ _) HWA.out.2 _ _) hg
    have HOK:Hid (R.1=0->paAgg x1 x2 x3 P n=paVal R.2.2):=hok
    clear hr hg hok b0 b1 b2 b3 b4 b5 b6 b7 bf d0 d1
    obtain ⟨b0,b1,b2,b3,b4,b5,b6,b7⟩:=HTB.out.cells
    have bf:=HTB.out.f
    obtain ⟨a0,a1,a2,a3,a4,a5,a6,a7⟩:=HTA.out.cells
    have af:=HTA.out.f
    obtain ⟨E,hE⟩:∃E,R.1=E:=⟨_,rfl⟩
    have HE:Hid (R.1=E):=hE
    rw [hE]
    clear hE
    go_wp2
    have hrow:TB A (.string ⟨#[61]⟩) (.func (.func 127) #[] #[]) x1 x2 x3 P n (put8 (put26 u2 (A+1) x1 x2 x3 P n) A (.string ⟨#[61]⟩) (.func (.func 127) #[] #[]) x1 x2 x3 P n):=put8_row (put26_tb HTA.out HBC.out.2.2.2 _ _ _ _ _) _ _ _ _ _
    refine bodyPost_ret (res_row_tmp (p:=2) (u:=3) rfl _ _ A _ _ (0,0) _ rfl hrow Tryz.underlying147 rfl (by kernel_rfl)) rfl ?_
    refine ⟨⟨#[61]⟩,x1,x2,x3,P,n,?_,HF.out.2,put8_rs (put26_rs HR2.out HBC.out.2.1 _ _ _ _ _) HBC.out.1 _ _ _ _ _ _ _,put8_gb (put26_gb HG.out HWA.out.2 _ _ _ _ _) HWA.out.1 _ _ _ _ _ _ _,HOK.out⟩
    rw [HF.out.1,HE.out];rfl
   | false =>
    rw [hp] at CTk
    have CTq:Hid (∀w,RS b s i w->Calls Tryz.prog 60 #[.pointer (some ⟨b,0,none⟩),.string ⟨#[61]⟩] w fun e w'=>e=.returned (.bool false)/\RS b s (i) w'/\w.grownBy w' (some b)):=CTk.out
    have HP:Hid (sgA l i 4=false):=hp
    clear hp CTk
    go_region_held3 (fun w'=>w'.cell? ⟨D,0,none⟩=some (.string ⟨#[61]⟩)) ((first | (simp only [cell_drew];assumption) | (refine World.grownBy.cell (by assumption) (by assumption) ?_;simpa using HDA.out.1))) (first | (go_at_call 60;refine (CTq.out _ (by first | exact HI.out | exact HI.out.drew 1)).mono ?_;rintro e u1 ⟨rfl,hr,hg⟩))
    have hg':=gb_undrew hg
    have HD1:Hid (u1.heap[D]?=some (.cells #[.string ⟨#[61]⟩,.func (.func 127) #[] #[]] 143 (0,0))):=by show _=_;rw [hg'.block D ((Array.getElem?_eq_some_iff.1 HDR.out).1) (by simpa using HDA.out.1)];exact HDR.out
    replace HI:Hid (RS b s (i) u1):=hr
    replace HTA:Hid (TB A (.string ⟨#[]⟩) .nilFunc 0 0 0 ⟨#[]⟩ 0 u1):=HTA.out.growb hg' (Ne.symm HBC.out.1)
    replace HTB:Hid (TB (A+1) (.string ⟨#[]⟩) .nilFunc 0 0 0 ⟨#[]⟩ 0 u1):=HTB.out.growb hg' (Ne.symm HBC.out.2.1)
    replace HSR:Hid (SR (A+2) u1):=HSR.out.growb hg' HBC.out.2.2.1
    replace HG:Hid (w.grownBy u1 (some b)):=gb_trans HG.out hg'
    clear hg hg' hr HDR d0 stf
    go_wp2
    go_roundw
    case rel=>exact ⟨5,rfl,by omega,fun m hm=>by rcases Nat.lt_succ_iff_lt_or_eq.1 hm with h | h;exact HNO.out m h;rw [h];exact HP.out,HI.out,HTA.out,HTB.out,HSR.out,HG.out⟩
    case measure=>simp [intOf]
  ·have s0:wr.cell? ⟨A+2,10,none⟩=some (.string ⟨#[94]⟩):=by rw [Lib.cell_of_heap (show _=_ from HSR.out)];rfl
   have s1:wr.cell? ⟨A+2,11,none⟩=some (.func (.func 128) #[] #[]):=by rw [Lib.cell_of_heap (show _=_ from HSR.out)];rfl
   obtain ⟨D,hD⟩:∃D,wr.heap.size=D:=⟨_,rfl⟩
   obtain ⟨W0,hW0⟩:∃W0,wr.alloc (.cells #[.string ⟨#[]⟩,.nilFunc] 143)=W0:=⟨_,rfl⟩
   have HD0:Hid (W0.heap[D]?=some (.cells #[.string ⟨#[]⟩,.nilFunc] 143 (0,0))):=by show _=_;rw [<-hW0,<-hD];exact heap_alloc_new wr _
   have k0:W0.cell? ⟨D,0,none⟩=some (.string ⟨#[]⟩):=by rw [Lib.cell_of_heap HD0.out];rfl
   have k1:W0.cell? ⟨D,1,none⟩=some .nilFunc:=by rw [Lib.cell_of_heap HD0.out];rfl
   have kf:∀o,W0.frozen? ⟨D,o,none⟩=false:=fun o=>Lib.frozen_of_heap HD0.out o
   have stf:∀(a:Addr) (m:Mode) (w:World),(store a (.func (.func 128) #[] #[]) m).run Tryz.prog w=stored Tryz.prog w a (.func (.func 128) #[] #[]) m:=fun a m w=>run_store Tryz.prog w a _ m rfl
   go_wp2_with (fail)
   obtain ⟨W,hW⟩:∃W,(W0.setCell ⟨D,0,none⟩ (.string ⟨#[94]⟩)).setCell ⟨D,1,none⟩ (.func (.func 128) #[] #[])=W:=⟨_,rfl⟩
   have hgW:wr.grownBy W none:=by rw [<-hW];exact gb_new0 (gb_new0 (by rw [<-hW0];exact gb_alloc (gb_refl wr none) _) (Nat.le_of_eq hD) _ _) (Nat.le_of_eq hD) _ _
   have HDR:Hid (W.heap[D]?=some (.cells #[.string ⟨#[94]⟩,.func (.func 128) #[] #[]] 143 (0,0))):=by show _=_;have h0:=HD0.out;rw [<-hW];simp [World.setCell,Array.getElem?_modify,h0]
   have HDA:Hid (D ≠ b/\A+1 < D):=by
    have h1:=(Array.getElem?_eq_some_iff.1 HTB.out).1
    have h2:=HA.out
    rw [hD] at h1
    exact ⟨by omega,h1⟩
   replace HI:Hid (RS b s i W):=HI.out.grow hgW
   replace HTA:Hid (TB A (.string ⟨#[]⟩) .nilFunc 0 0 0 ⟨#[]⟩ 0 W):=HTA.out.grow hgW
   replace HTB:Hid (TB (A+1) (.string ⟨#[]⟩) .nilFunc 0 0 0 ⟨#[]⟩ 0 W):=HTB.out.grow hgW
   replace HSR:Hid (SR (A+2) W):=HSR.out.growb (gb_weak hgW (some b)) HBC.out.2.2.1
   replace HG:Hid (w.grownBy W (some b)):=gb_trans HG.out (gb_weak hgW _)
   have d0:W.cell? ⟨D,0,none⟩=some (.string ⟨#[94]⟩):=by rw [Lib.cell_of_heap HDR.out];rfl
   try rw [hW]
   try rw [hD]
   clear hgW hW hD s0 s1 hW0 HD0 k0 k1 kf
   have CTk:Hid (∀w,RS b s i w->Calls Tryz.prog 60 #[.pointer (some ⟨b,0,none⟩),.string ⟨#[94]⟩] w fun e w'=>e=.returned (.bool (sgA l i 5))/\RS b s (if sgA l i 5=true then i+1 else i) w'/\w.grownBy w' (some b)):=fun w h=>CT.out 5 ⟨#[94]⟩ w rfl h
   cases hp:sgA l i 5 with
   | true =>
    rw [hp] at CTk
    have CTq:Hid (∀w,RS b s i w->Calls Tryz.prog 60 #[.pointer (some ⟨b,0,none⟩),.string ⟨#[94]⟩] w fun e w'=>e=.returned (.bool true)/\RS b s (i+1) w'/\w.grownBy w' (some b)):=CTk.out
    have HP:Hid (sgA l i 5=true):=hp
    clear hp CTk
    go_region_held3 (fun w'=>w'.cell? ⟨D,0,none⟩=some (.string ⟨#[94]⟩)) ((first | (simp only [cell_drew];assumption) | (refine World.grownBy.cell (by assumption) (by assumption) ?_;simpa using HDA.out.1))) (first | (go_at_call 60;refine (CTq.out _ (by first | exact HI.out | exact HI.out.drew 1)).mono ?_;rintro e u1 ⟨rfl,hr,hg⟩))
    have hg':=gb_undrew hg
    have HD1:Hid (u1.heap[D]?=some (.cells #[.string ⟨#[94]⟩,.func (.func 128) #[] #[]] 143 (0,0))):=by show _=_;rw [hg'.block D ((Array.getElem?_eq_some_iff.1 HDR.out).1) (by simpa using HDA.out.1)];exact HDR.out
    replace HI:Hid (RS b s (i+1) u1):=hr
    replace HTA:Hid (TB A (.string ⟨#[]⟩) .nilFunc 0 0 0 ⟨#[]⟩ 0 u1):=HTA.out.growb hg' (Ne.symm HBC.out.1)
    replace HTB:Hid (TB (A+1) (.string ⟨#[]⟩) .nilFunc 0 0 0 ⟨#[]⟩ 0 u1):=HTB.out.growb hg' (Ne.symm HBC.out.2.1)
    replace HSR:Hid (SR (A+2) u1):=HSR.out.growb hg' HBC.out.2.2.1
    replace HG:Hid (w.grownBy u1 (some b)):=gb_trans HG.out hg'
    clear hg hg' hr HDR d0 stf
    have HOUT:Hid (rdSign l i=(5,i+1)):=sign5 l i (HNO.out 0 (by omega)) (HNO.out 1 (by omega)) (HNO.out 2 (by omega)) (HNO.out 3 (by omega)) (HNO.out 4 (by omega)) HP.out
    obtain ⟨hsg,hj⟩:sg=5/\j=i+1:=by have:=HSG.out.symm.trans HOUT.out;simpa using this
    rw [hj] at CPJ
    have HF:Hid (signF sg=128/\(⟨#[94]⟩:ByteArray).toList.isEmpty=decide (sg < 0)):=by rw [hsg];exact ⟨rfl,(emp_f2 (by decide)).trans (by decide)⟩
    clear hsg hj HNO HSG HOUT CT CS
    have stf:∀(a:Addr) (m:Mode) (w:World),(store a (.func (.func 128) #[] #[]) m).run Tryz.prog w=stored Tryz.prog w a (.func (.func 128) #[] #[]) m:=fun a m w=>run_store Tryz.prog w a _ m rfl
    have d0:u1.cell? ⟨D,0,none⟩=some (.string ⟨#[94]⟩):=by rw [Lib.cell_of_heap HD1.out];rfl
    have d1:u1.cell? ⟨D,1,none⟩=some (.func (.func 128) #[] #[]):=by rw [Lib.cell_of_heap HD1.out];rfl
    obtain ⟨b0,b1,b2,b3,b4,b5,b6,b7⟩:=HTB.out.cells
    have bf:=HTB.out.f
    go_wp2_with (first | (go_at_call 108;refine (CPJ.out _ ((HI.out.other HBC.out.2.1 _ _).other HBC.out.2.1 _ _)).mono ?_))
    rintro e u2 ⟨x1,x2,x3,P,n,rfl,hr,hg,hok⟩
    have HR2:Hid (RS b s R.2.1 u2):=hr
    replace HTB:Hid (TB (A+1) (.string ⟨#[94]⟩) (.func (.func 128) #[] #[]) 0 0 0 ⟨#[]⟩ 0 u2):=(HTB.out.set01 _ _).growb hg (Ne.symm HBC.out.2.1)
    replace HTA:Hid (TB A (.string ⟨#[]⟩) .nilFunc 0 0 0 ⟨#[]⟩ 0 u2):=((HTA.out.other HBC.out.2.2.2 _ _).other HBC.out.2.2.2 _ _).growb hg (Ne.symm HBC.out.1)
    replace HG:Hid (w.grownBy u2 (some b)):=gb_trans (gb_new (gb_new HG.out HWA.out.2 _ _) HWA.out.2 _ _) hg
    have HOK:Hid (R.1=0->paAgg x1 x2 x3 P n=paVal R.2.2):=hok
    clear hr hg hok b0 b1 b2 b3 b4 b5 b6 b7 bf d0 d1
    obtain ⟨b0,b1,b2,b3,b4,b5,b6,b7⟩:=HTB.out.cells
    have bf:=HTB.out.f
    obtain ⟨a0,a1,a2,a3,a4,a5,a6,a7⟩:=HTA.out.cells
    have af:=HTA.out.f
    obtain ⟨E,hE⟩:∃E,R.1=E:=⟨_,rfl⟩
    have HE:Hid (R.1=E):=hE
    rw [hE]
    clear hE
    go_wp2
    have hrow:TB A (.string ⟨#[94]⟩) (.func (.func 128) #[] #[]) x1 x2 x3 P n (put8 (put26 u2 (A+1) x1 x2 x3 P n) A (.string ⟨#[94]⟩) (.func (.func 128) #[] #[]) x1 x2 x3 P n):=put8_row (put26_tb HTA.out HBC.out.2.2.2 _ _ _ _ _) _ _ _ _ _
    refine bodyPost_ret (res_row_tmp (p:=2) (u:=3) rfl _ _ A _ _ (0,0) _ rfl hrow Tryz.underlying147 rfl (by kernel_rfl)) rfl ?_
    refine ⟨⟨#[94]⟩,x1,x2,x3,P,n,?_,HF.out.2,put8_rs (put26_rs HR2.out HBC.out.2.1 _ _ _ _ _) HBC.out.1 _ _ _ _ _ _ _,put8_gb (put26_gb HG.out HWA.out.2 _ _ _ _ _) HWA.out.1 _ _ _ _ _ _ _,HOK.out⟩
    rw [HF.out.1,HE.out];rfl
   | false =>
    rw [hp] at CTk
    have CTq:Hid (∀w,RS b s i w->Calls Tryz.prog 60 #[.pointer (some ⟨b,0,none⟩),.string ⟨#[94]⟩] w fun e w'=>e=.returned (.bool false)/\RS b s (i) w'/\w.grownBy w' (some b)):=CTk.out
    have HP:Hid (sgA l i 5=false):=hp
    clear hp CTk
    go_region_held3 (fun w'=>w'.cell? ⟨D,0,none⟩=some (.string ⟨#[94]⟩)) ((first | (simp only [cell_drew];assumption) | (refine World.grownBy.cell (by assumption) (by assumption) ?_;simpa using HDA.out.1))) (first | (go_at_call 60;refine (CTq.out _ (by first | exact HI.out | exact HI.out.drew 1)).mono ?_;rintro e u1 ⟨rfl,hr,hg⟩))
    have hg':=gb_undrew hg
    have HD1:Hid (u1.heap[D]?=some (.cells #[.string ⟨#[94]⟩,.func (.func 128) #[] #[]] 143 (0,0))):=by show _=_;rw [hg'.block D ((Array.getElem?_eq_some_iff.1 HDR.out).1) (by simpa using HDA.out.1)];exact HDR.out
    replace HI:Hid (RS b s (i) u1):=hr
    replace HTA:Hid (TB A (.string ⟨#[]⟩) .nilFunc 0 0 0 ⟨#[]⟩ 0 u1):=HTA.out.growb hg' (Ne.symm HBC.out.1)
    replace HTB:Hid (TB (A+1) (.string ⟨#[]⟩) .nilFunc 0 0 0 ⟨#[]⟩ 0 u1):=HTB.out.growb hg' (Ne.symm HBC.out.2.1)
    replace HSR:Hid (SR (A+2) u1):=HSR.out.growb hg' HBC.out.2.2.1
    replace HG:Hid (w.grownBy u1 (some b)):=gb_trans HG.out hg'
    clear hg hg' hr HDR d0 stf
    go_wp2
    go_roundw
    case rel=>exact ⟨6,rfl,by omega,fun m hm=>by rcases Nat.lt_succ_iff_lt_or_eq.1 hm with h | h;exact HNO.out m h;rw [h];exact HP.out,HI.out,HTA.out,HTB.out,HSR.out,HG.out⟩
    case measure=>simp [intOf]
  ·have s0:wr.cell? ⟨A+2,12,none⟩=some (.string ⟨#[126]⟩):=by rw [Lib.cell_of_heap (show _=_ from HSR.out)];rfl
   have s1:wr.cell? ⟨A+2,13,none⟩=some (.func (.func 131) #[] #[]):=by rw [Lib.cell_of_heap (show _=_ from HSR.out)];rfl
   obtain ⟨D,hD⟩:∃D,wr.heap.size=D:=⟨_,rfl⟩
   obtain ⟨W0,hW0⟩:∃W0,wr.alloc (.cells #[.string ⟨#[]⟩,.nilFunc] 143)=W0:=⟨_,rfl⟩
   have HD0:Hid (W0.heap[D]?=some (.cells #[.string ⟨#[]⟩,.nilFunc] 143 (0,0))):=by show _=_;rw [<-hW0,<-hD];exact heap_alloc_new wr _
   have k0:W0.cell? ⟨D,0,none⟩=some (.string ⟨#[]⟩):=by rw [Lib.cell_of_heap HD0.out];rfl
   have k1:W0.cell? ⟨D,1,none⟩=some .nilFunc:=by rw [Lib.cell_of_heap HD0.out];rfl
   have kf:∀o,W0.frozen? ⟨D,o,none⟩=false:=fun o=>Lib.frozen_of_heap HD0.out o
   have stf:∀(a:Addr) (m:Mode) (w:World),(store a (.func (.func 131) #[] #[]) m).run Tryz.prog w=stored Tryz.prog w a (.func (.func 131) #[] #[]) m:=fun a m w=>run_store Tryz.prog w a _ m rfl
   go_wp2_with (fail)
   obtain ⟨W,hW⟩:∃W,(W0.setCell ⟨D,0,none⟩ (.string ⟨#[126]⟩)).setCell ⟨D,1,none⟩ (.func (.func 131) #[] #[])=W:=⟨_,rfl⟩
   have hgW:wr.grownBy W none:=by rw [<-hW];exact gb_new0 (gb_new0 (by rw [<-hW0];exact gb_alloc (gb_refl wr none) _) (Nat.le_of_eq hD) _ _) (Nat.le_of_eq hD) _ _
   have HDR:Hid (W.heap[D]?=some (.cells #[.string ⟨#[126]⟩,.func (.func 131) #[] #[]] 143 (0,0))):=by show _=_;have h0:=HD0.out;rw [<-hW];simp [World.setCell,Array.getElem?_modify,h0]
   have HDA:Hid (D ≠ b/\A+1 < D):=by
    have h1:=(Array.getElem?_eq_some_iff.1 HTB.out).1
    have h2:=HA.out
    rw [hD] at h1
    exact ⟨by omega,h1⟩
   replace HI:Hid (RS b s i W):=HI.out.grow hgW
   replace HTA:Hid (TB A (.string ⟨#[]⟩) .nilFunc 0 0 0 ⟨#[]⟩ 0 W):=HTA.out.grow hgW
   replace HTB:Hid (TB (A+1) (.string ⟨#[]⟩) .nilFunc 0 0 0 ⟨#[]⟩ 0 W):=HTB.out.grow hgW
   replace HSR:Hid (SR (A+2) W):=HSR.out.growb (gb_weak hgW (some b)) HBC.out.2.2.1
   replace HG:Hid (w.grownBy W (some b)):=gb_trans HG.out (gb_weak hgW _)
   have d0:W.cell? ⟨D,0,none⟩=some (.string ⟨#[126]⟩):=by rw [Lib.cell_of_heap HDR.out];rfl
   try rw [hW]
   try rw [hD]
   clear hgW hW hD s0 s1 hW0 HD0 k0 k1 kf
   have CTk:Hid (∀w,RS b s i w->Calls Tryz.prog 60 #[.pointer (some ⟨b,0,none⟩),.string ⟨#[126]⟩] w fun e w'=>e=.returned (.bool (sgA l i 6))/\RS b s (if sgA l i 6=true then i+1 else i) w'/\w.grownBy w' (some b)):=fun w h=>CT.out 6 ⟨#[126]⟩ w rfl h
   cases hp:sgA l i 6 with
   | true =>
    rw [hp] at CTk
    have CTq:Hid (∀w,RS b s i w->Calls Tryz.prog 60 #[.pointer (some ⟨b,0,none⟩),.string ⟨#[126]⟩] w fun e w'=>e=.returned (.bool true)/\RS b s (i+1) w'/\w.grownBy w' (some b)):=CTk.out
    have HP:Hid (sgA l i 6=true):=hp
    clear hp CTk
    go_region_held3 (fun w'=>w'.cell? ⟨D,0,none⟩=some (.string ⟨#[126]⟩)) ((first | (simp only [cell_drew];assumption) | (refine World.grownBy.cell (by assumption) (by assumption) ?_;simpa using HDA.out.1))) (first | (go_at_call 60;refine (CTq.out _ (by first | exact HI.out | exact HI.out.drew 1)).mono ?_;rintro e u1 ⟨rfl,hr,hg⟩))
    have hg':=gb_undrew hg
    have HD1:Hid (u1.heap[D]?=some (.cells #[.string ⟨#[126]⟩,.func (.func 131) #[] #[]] 143 (0,0))):=by show _=_;rw [hg'.block D ((Array.getElem?_eq_some_iff.1 HDR.out).1) (by simpa using HDA.out.1)];exact HDR.out
    replace HI:Hid (RS b s (i+1) u1):=hr
    replace HTA:Hid (TB A (.string ⟨#[]⟩) .nilFunc 0 0 0 ⟨#[]⟩ 0 u1):=HTA.out.growb hg' (Ne.symm HBC.out.1)
    replace HTB:Hid (TB (A+1) (.string ⟨#[]⟩) .nilFunc 0 0 0 ⟨#[]⟩ 0 u1):=HTB.out.growb hg' (Ne.symm HBC.out.2.1)
    replace HSR:Hid (SR (A+2) u1):=HSR.out.growb hg' HBC.out.2.2.1
    replace HG:Hid (w.grownBy u1 (some b)):=gb_trans HG.out hg'
    clear hg hg' hr HDR d0 stf
    have HOUT:Hid (rdSign l i=(6,i+1)):=sign6 l i (HNO.out 0 (by omega)) (HNO.out 1 (by omega)) (HNO.out 2 (by omega)) (HNO.out 3 (by omega)) (HNO.out 4 (by omega)) (HNO.out 5 (by omega)) HP.out
    obtain ⟨hsg,hj⟩:sg=6/\j=i+1:=by have:=HSG.out.symm.trans HOUT.out;simpa using this
    rw [hj] at CPJ
    have HF:Hid (signF sg=131/\(⟨#[126]⟩:ByteArray).toList.isEmpty=decide (sg < 0)):=by rw [hsg];exact ⟨rfl,(emp_f2 (by decide)).trans (by decide)⟩
    clear hsg hj HNO HSG HOUT CT CS
    have stf:∀(a:Addr) (m:Mode) (w:World),(store a (.func (.func 131) #[] #[]) m).run Tryz.prog w=stored Tryz.prog w a (.func (.func 131) #[] #[]) m:=fun a m w=>run_store Tryz.prog w a _ m rfl
    have d0:u1.cell? ⟨D,0,none⟩=some (.string ⟨#[126]⟩):=by rw [Lib.cell_of_heap HD1.out];rfl
    have d1:u1.cell? ⟨D,1,none⟩=some (.func (.func 131) #[] #[]):=by rw [Lib.cell_of_heap HD1.out];rfl
    obtain ⟨b0,b1,b2,b3,b4,b5,b6,b7⟩:=HTB.out.cells
    have bf:=HTB.out.f
    go_wp2_with (first | (go_at_call 108;refine (CPJ.out _ ((HI.out.other HBC.out.2.1 _ _).other HBC.out.2.1 _ _)).mono ?_))
    rintro e u2 ⟨x1,x2,x3,P,n,rfl,hr,hg,hok⟩
    have HR2:Hid (RS b s R.2.1 u2):=hr
    replace HTB:Hid (TB (A+1) (.string ⟨#[126]⟩) (.func (.func 131) #[] #[]) 0 0 0 ⟨#[]⟩ 0 u2):=(HTB.out.set01 _ _).growb hg (Ne.symm HBC.out.2.1)
    replace HTA:Hid (TB A (.string ⟨#[]⟩) .nilFunc 0 0 0 ⟨#[]⟩ 0 u2):=((HTA.out.other HBC.out.2.2.2 _ _).other HBC.out.2.2.2 _ _).growb hg (Ne.symm HBC.out.1)
    replace HG:Hid (w.grownBy u2 (some b)):=gb_trans (gb_new (gb_new HG.out HWA.out.2 _ _) HWA.out.2 _ _) hg
    have HOK:Hid (R.1=0->paAgg x1 x2 x3 P n=paVal R.2.2):=hok
    clear hr hg hok b0 b1 b2 b3 b4 b5 b6 b7 bf d0 d1
    obtain ⟨b0,b1,b2,b3,b4,b5,b6,b7⟩:=HTB.out.cells
    have bf:=HTB.out.f
    obtain ⟨a0,a1,a2,a3,a4,a5,a6,a7⟩:=HTA.out.cells
    have af:=HTA.out.f
    obtain ⟨E,hE⟩:∃E,R.1=E:=⟨_,rfl⟩
    have HE:Hid (R.1=E):=hE
    rw [hE]
    clear hE
    go_wp2
    have hrow:TB A (.string ⟨#[126]⟩) (.func (.func 131) #[] #[]) x1 x2 x3 P n (put8 (put26 u2 (A+1) x1 x2 x3 P n) A (.string ⟨#[126]⟩) (.func (.func 131) #[] #[]) x1 x2 x3 P n):=put8_row (put26_tb HTA.out HBC.out.2.2.2 _ _ _ _ _) _ _ _ _ _
    refine bodyPost_ret (res_row_tmp (p:=2) (u:=3) rfl _ _ A _ _ (0,0) _ rfl hrow Tryz.underlying147 rfl (by kernel_rfl)) rfl ?_
    refine ⟨⟨#[126]⟩,x1,x2,x3,P,n,?_,HF.out.2,put8_rs (put26_rs HR2.out HBC.out.2.1 _ _ _ _ _) HBC.out.1 _ _ _ _ _ _ _,put8_gb (put26_gb HG.out HWA.out.2 _ _ _ _ _) HWA.out.1 _ _ _ _ _ _ _,HOK.out⟩
    rw [HF.out.1,HE.out];rfl
   | false =>
    rw [hp] at CTk
    have CTq:Hid (∀w,RS b s i w->Calls Tryz.prog 60 #[.pointer (some ⟨b,0,none⟩),.string ⟨#[126]⟩] w fun e w'=>e=.returned (.bool false)/\RS b s (i) w'/\w.grownBy w' (some b)):=CTk.out
    have HP:Hid (sgA l i 6=false):=hp
    clear hp CTk
    go_region_held3 (fun w'=>w'.cell? ⟨D,0,none⟩=some (.string ⟨#[126]⟩)) ((first | (simp only [cell_drew];assumption) | (refine World.grownBy.cell (by assumption) (by assumption) ?_;simpa using HDA.out.1))) (first | (go_at_call 60;refine (CTq.out _ (by first | exact HI.out | exact HI.out.drew 1)).mono ?_;rintro e u1 ⟨rfl,hr,hg⟩))
    have hg':=gb_undrew hg
    have HD1:Hid (u1.heap[D]?=some (.cells #[.string ⟨#[126]⟩,.func (.func 131) #[] #[]] 143 (0,0))):=by show _=_;rw [hg'.block D ((Array.getElem?_eq_some_iff.1 HDR.out).1) (by simpa using HDA.out.1)];exact HDR.out
    replace HI:Hid (RS b s (i) u1):=hr
    replace HTA:Hid (TB A (.string ⟨#[]⟩) .nilFunc 0 0 0 ⟨#[]⟩ 0 u1):=HTA.out.growb hg' (Ne.symm HBC.out.1)
    replace HTB:Hid (TB (A+1) (.string ⟨#[]⟩) .nilFunc 0 0 0 ⟨#[]⟩ 0 u1):=HTB.out.growb hg' (Ne.symm HBC.out.2.1)
    replace HSR:Hid (SR (A+2) u1):=HSR.out.growb hg' HBC.out.2.2.1
    replace HG:Hid (w.grownBy u1 (some b)):=gb_trans HG.out hg'
    clear hg hg' hr HDR d0 stf
    go_wp2
    go_roundw
    case rel=>exact ⟨7,rfl,by omega,fun m hm=>by rcases Nat.lt_succ_iff_lt_or_eq.1 hm with h | h;exact HNO.out m h;rw [h];exact HP.out,HI.out,HTA.out,HTB.out,HSR.out,HG.out⟩
    case measure=>simp [intOf]
  ·have s0:wr.cell? ⟨A+2,14,none⟩=some (.string ⟨#[]⟩):=by rw [Lib.cell_of_heap (show _=_ from HSR.out)];rfl
   have s1:wr.cell? ⟨A+2,15,none⟩=some (.func (.func 127) #[] #[]):=by rw [Lib.cell_of_heap (show _=_ from HSR.out)];rfl
   obtain ⟨D,hD⟩:∃D,wr.heap.size=D:=⟨_,rfl⟩
   obtain ⟨W0,hW0⟩:∃W0,wr.alloc (.cells #[.string ⟨#[]⟩,.nilFunc] 143)=W0:=⟨_,rfl⟩
   have HD0:Hid (W0.heap[D]?=some (.cells #[.string ⟨#[]⟩,.nilFunc] 143 (0,0))):=by show _=_;rw [<-hW0,<-hD];exact heap_alloc_new wr _
   have k0:W0.cell? ⟨D,0,none⟩=some (.string ⟨#[]⟩):=by rw [Lib.cell_of_heap HD0.out];rfl
   have k1:W0.cell? ⟨D,1,none⟩=some .nilFunc:=by rw [Lib.cell_of_heap HD0.out];rfl
   have kf:∀o,W0.frozen? ⟨D,o,none⟩=false:=fun o=>Lib.frozen_of_heap HD0.out o
   have stf:∀(a:Addr) (m:Mode) (w:World),(store a (.func (.func 127) #[] #[]) m).run Tryz.prog w=stored Tryz.prog w a (.func (.func 127) #[] #[]) m:=fun a m w=>run_store Tryz.prog w a _ m rfl
   go_wp2_with (fail)
   obtain ⟨W,hW⟩:∃W,(W0.setCell ⟨D,0,none⟩ (.string ⟨#[]⟩)).setCell ⟨D,1,none⟩ (.func (.func 127) #[] #[])=W:=⟨_,rfl⟩
   have hgW:wr.grownBy W none:=by rw [<-hW];exact gb_new0 (gb_new0 (by rw [<-hW0];exact gb_alloc (gb_refl wr none) _) (Nat.le_of_eq hD) _ _) (Nat.le_of_eq hD) _ _
   have HDR:Hid (W.heap[D]?=some (.cells #[.string ⟨#[]⟩,.func (.func 127) #[] #[]] 143 (0,0))):=by show _=_;have h0:=HD0.out;rw [<-hW];simp [World.setCell,Array.getElem?_modify,h0]
   have HDA:Hid (D ≠ b/\A+1 < D):=by
    have h1:=(Array.getElem?_eq_some_iff.1 HTB.out).1
    have h2:=HA.out
    rw [hD] at h1
    exact ⟨by omega,h1⟩
   replace HI:Hid (RS b s i W):=HI.out.grow hgW
   replace HTA:Hid (TB A (.string ⟨#[]⟩) .nilFunc 0 0 0 ⟨#[]⟩ 0 W):=HTA.out.grow hgW
   replace HTB:Hid (TB (A+1) (.string ⟨#[]⟩) .nilFunc 0 0 0 ⟨#[]⟩ 0 W):=HTB.out.grow hgW
   replace HSR:Hid (SR (A+2) W):=HSR.out.growb (gb_weak hgW (some b)) HBC.out.2.2.1
   replace HG:Hid (w.grownBy W (some b)):=gb_trans HG.out (gb_weak hgW _)
   have d0:W.cell? ⟨D,0,none⟩=some (.string ⟨#[]⟩):=by rw [Lib.cell_of_heap HDR.out];rfl
   try rw [hW]
   try rw [hD]
   clear hgW hW hD s0 s1 hW0 HD0 k0 k1 kf
   have CTk:Hid (∀w,RS b s i w->Calls Tryz.prog 60 #[.pointer (some ⟨b,0,none⟩),.string ⟨#[]⟩] w fun e w'=>e=.returned (.bool (sgA l i 7))/\RS b s (if sgA l i 7=true then i+0 else i) w'/\w.grownBy w' (some b)):=fun w h=>CT.out 7 ⟨#[]⟩ w rfl h
   cases hp:sgA l i 7 with
   | true =>
    rw [hp] at CTk
    have CTq:Hid (∀w,RS b s i w->Calls Tryz.prog 60 #[.pointer (some ⟨b,0,none⟩),.string ⟨#[]⟩] w fun e w'=>e=.returned (.bool true)/\RS b s (i) w'/\w.grownBy w' (some b)):=CTk.out
    have HP:Hid (sgA l i 7=true):=hp
    clear hp CTk
    go_region_held3 (fun w'=>w'.cell? ⟨D,0,none⟩=some (.string ⟨#[]⟩)) ((first | (simp only [cell_drew];assumption) | (refine World.grownBy.cell (by assumption) (by assumption) ?_;simpa using HDA.out.1))) (first | (go_at_call 60;refine (CTq.out _ (by first | exact HI.out | exact HI.out.drew 1)).mono ?_;rintro e u1 ⟨rfl,hr,hg⟩))
    have hg':=gb_undrew hg
    have HD1:Hid (u1.heap[D]?=some (.cells #[.string ⟨#[]⟩,.func (.func 127) #[] #[]] 143 (0,0))):=by show _=_;rw [hg'.block D ((Array.getElem?_eq_some_iff.1 HDR.out).1) (by simpa using HDA.out.1)];exact HDR.out
    replace HI:Hid (RS b s (i) u1):=hr
    replace HTA:Hid (TB A (.string ⟨#[]⟩) .nilFunc 0 0 0 ⟨#[]⟩ 0 u1):=HTA.out.growb hg' (Ne.symm HBC.out.1)
    replace HTB:Hid (TB (A+1) (.string ⟨#[]⟩) .nilFunc 0 0 0 ⟨#[]⟩ 0 u1):=HTB.out.growb hg' (Ne.symm HBC.out.2.1)
    replace HSR:Hid (SR (A+2) u1):=HSR.out.growb hg' HBC.out.2.2.1
    replace HG:Hid (w.grownBy u1 (some b)):=gb_trans HG.out hg'
    clear hg hg' hr HDR d0 stf
    have HOUT:Hid (rdSign l i=(-1,i)):=sign7 l i (HNO.out 0 (by omega)) (HNO.out 1 (by omega)) (HNO.out 2 (by omega)) (HNO.out 3 (by omega)) (HNO.out 4 (by omega)) (HNO.out 5 (by omega)) (HNO.out 6 (by omega))
    obtain ⟨hsg,hj⟩:sg=-1/\j=i:=by have:=HSG.out.symm.trans HOUT.out;simpa using this
    rw [hj] at CPJ
    have HF:Hid (signF sg=127/\(⟨#[]⟩:ByteArray).toList.isEmpty=decide (sg < 0)):=by rw [hsg];exact ⟨rfl,(emp_t2 (by decide)).trans (by decide)⟩
    clear hsg hj HNO HSG HOUT CT CS
    have stf:∀(a:Addr) (m:Mode) (w:World),(store a (.func (.func 127) #[] #[]) m).run Tryz.prog w=stored Tryz.prog w a (.func (.func 127) #[] #[]) m:=fun a m w=>run_store Tryz.prog w a _ m rfl
    have d0:u1.cell? ⟨D,0,none⟩=some (.string ⟨#[]⟩):=by rw [Lib.cell_of_heap HD1.out];rfl
    have d1:u1.cell? ⟨D,1,none⟩=some (.func (.func 127) #[] #[]):=by rw [Lib.cell_of_heap HD1.out];rfl
    obtain ⟨b0,b1,b2,b3,b4,b5,b6,b7⟩:=HTB.out.cells
    have bf:=HTB.out.f
    go_wp2_with (first | (go_at_call 108;refine (CPJ.out _ ((HI.out.other HBC.out.2.1 _ _).other HBC.out.2.1 _ _)).mono ?_))
    rintro e u2 ⟨x1,x2,x3,P,n,rfl,hr,hg,hok⟩
    have HR2:Hid (RS b s R.2.1 u2):=hr
    replace HTB:Hid (TB (A+1) (.string ⟨#[]⟩) (.func (.func 127) #[] #[]) 0 0 0 ⟨#[]⟩ 0 u2):=(HTB.out.set01 _ _).growb hg (Ne.symm HBC.out.2.1)
    replace HTA:Hid (TB A (.string ⟨#[]⟩) .nilFunc 0 0 0 ⟨#[]⟩ 0 u2):=((HTA.out.other HBC.out.2.2.2 _ _).other HBC.out.2.2.2 _ _).growb hg (Ne.symm HBC.out.1)
    replace HG:Hid (w.grownBy u2 (some b)):=gb_trans (gb_new (gb_new HG.out HWA.out.2 _ _) HWA.out.2 _ _) hg
    have HOK:Hid (R.1=0->paAgg x1 x2 x3 P n=paVal R.2.2):=hok
    clear hr hg hok b0 b1 b2 b3 b4 b5 b6 b7 bf d0 d1
    obtain ⟨b0,b1,b2,b3,b4,b5,b6,b7⟩:=HTB.out.cells
    have bf:=HTB.out.f
    obtain ⟨a0,a1,a2,a3,a4,a5,a6,a7⟩:=HTA.out.cells
    have af:=HTA.out.f
    obtain ⟨E,hE⟩:∃E,R.1=E:=⟨_,rfl⟩
    have HE:Hid (R.1=E):=hE
    rw [hE]
    clear hE
    go_wp2
    have hrow:TB A (.string ⟨#[]⟩) (.func (.func 127) #[] #[]) x1 x2 x3 P n (put8 (put26 u2 (A+1) x1 x2 x3 P n) A (.string ⟨#[]⟩) (.func (.func 127) #[] #[]) x1 x2 x3 P n):=put8_row (put26_tb HTA.out HBC.out.2.2.2 _ _ _ _ _) _ _ _ _ _
    refine bodyPost_ret (res_row_tmp (p:=2) (u:=3) rfl _ _ A _ _ (0,0) _ rfl hrow Tryz.underlying147 rfl (by kernel_rfl)) rfl ?_
    refine ⟨⟨#[]⟩,x1,x2,x3,P,n,?_,HF.out.2,put8_rs (put26_rs HR2.out HBC.out.2.1 _ _ _ _ _) HBC.out.1 _ _ _ _ _ _ _,put8_gb (put26_gb HG.out HWA.out.2 _ _ _ _ _) HWA.out.1 _ _ _ _ _ _ _,HOK.out⟩
    rw [HF.out.1,HE.out];rfl
   | false =>
    have:sgA l i 7=true:=by unfold sgA sgT;cases l.drop i <;> rfl
    rw [this] at hp
    cases hp
end Go.Proofs.YtonfldbigenfhaaGreatDoor
