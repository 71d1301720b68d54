import Derived.Test.YteciokcdpadmpaaGreatDoorS17
set_option linter.all false
set_option maxRecDepth 100000
set_option maxHeartbeats 0
open Go.Proofs.Tryz
namespace Go.Proofs.YteciokcdpadmpaaGreatDoor
open Go.RowKit
def Sz:Array Value:=#[.string ⟨#[62,61]⟩,.func (.func 191) #[] #[],.string ⟨#[60,61]⟩,.func (.func 192) #[] #[],.string ⟨#[62]⟩,.func (.func 193) #[] #[],.string ⟨#[60]⟩,.func (.func 194) #[] #[],.string ⟨#[61]⟩,.func (.func 195) #[] #[],.string ⟨#[94]⟩,.func (.func 196) #[] #[],.string ⟨#[126]⟩,.func (.func 199) #[] #[],.string ⟨#[]⟩,.func (.func 195) #[] #[]]
theorem abY(w:World):Calls prog 177 #[] w fun e w'=>e=.returned (.slice (some ⟨w.heap.size,0,none⟩) 8 8)/\w'=w.alloc (.cells Sz 230):=by
 go_enter func177,ntmps177;go_wp2;go_ret;exact⟨rfl,rfl⟩
def Af(k:Nat):List UInt8:=match k with|0=>[62,61]|1=>[60,61]|2=>[62]|3=>[60]|4=>[61]|5=>[94]|6=>[126]|_=>[]
def bU(l:List UInt8)(i k:Nat):Bool:=Lib.hasPrefix (l.drop i) (Af k)
theorem fQ(l:List UInt8)(i:Nat)(a c:UInt8):Lib.hasPrefix (l.drop i) [a,c]=(decide (l[i]?=some a) && decide (l[i+1]?=some c)):=by
 have e0:l[i]?=(l.drop i)[0]?:=by rw[List.getElem?_drop];rfl
 have e1:l[i+1]?=(l.drop i)[1]?:=by rw[List.getElem?_drop]
 rw[e0,e1]
 cases l.drop i with
 | nil=>rfl
 | cons x r =>
  cases r with
  | nil =>
   show(a == x && false)=_;simp
  | cons y r =>
   show(a == x && (c == y && true))=(decide (some x=some a) && decide (some y=some c));rw[Bool.eq_iff_iff];simp only[Bool.and_eq_true,beq_iff_eq,decide_eq_true_eq,Option.some.injEq,and_true];exact⟨fun h=>⟨h.1.symm,h.2.symm⟩,fun h=>⟨h.1.symm,h.2.symm⟩⟩
theorem abZ(l:List UInt8)(i:Nat)  (h0:bU l i 0=true):ax l i=(1,i+2):=by
 have g0:(decide (l[i]?=some 62) && decide (l[i+1]?=some 61))=true:=by rw[<-fQ];exact h0
 simp only[Bool.and_eq_true,decide_eq_true_eq]at g0;unfold ax
 repeat' split
 all_goals simp_all
theorem ab1(l:List UInt8)(i:Nat)(h0:bU l i 0=false)(h1:bU l i 1=true):ax l i=(2,i+2):=by
 have g0:(decide (l[i]?=some 62) && decide (l[i+1]?=some 61))=false:=by rw[<-fQ];exact h0
 have g1:(decide (l[i]?=some 60) && decide (l[i+1]?=some 61))=true:=by rw[<-fQ];exact h1
 simp only[Bool.and_eq_true,Bool.and_eq_false_iff,decide_eq_true_eq,decide_eq_false_iff_not]at g0 g1;unfold ax
 repeat' split
 all_goals simp_all
theorem ab2(l:List UInt8)(i:Nat)(h0:bU l i 0=false)(h1:bU l i 1=false)(h2:bU l i 2=true):ax l i=(3,i+1):=by
 have g0:(decide (l[i]?=some 62) && decide (l[i+1]?=some 61))=false:=by rw[<-fQ];exact h0
 have g1:(decide (l[i]?=some 60) && decide (l[i+1]?=some 61))=false:=by rw[<-fQ];exact h1
 have g2:decide (l[i]?=some 62)=true:=by rw[<-dI];exact h2
 simp only[Bool.and_eq_false_iff,decide_eq_true_eq,decide_eq_false_iff_not]at g0 g1 g2;unfold ax
 repeat' split
 all_goals simp_all
theorem ab3(l:List UInt8)(i:Nat)(h0:bU l i 0=false)(h1:bU l i 1=false)(h2:bU l i 2=false)(h3:bU l i 3=true):ax l i=(4,i+1):=by
 have g0:(decide (l[i]?=some 62) && decide (l[i+1]?=some 61))=false:=by rw[<-fQ];exact h0
 have g1:(decide (l[i]?=some 60) && decide (l[i+1]?=some 61))=false:=by rw[<-fQ];exact h1
 have g2:decide (l[i]?=some 62)=false:=by rw[<-dI];exact h2
 have g3:decide (l[i]?=some 60)=true:=by rw[<-dI];exact h3
 simp only[Bool.and_eq_false_iff,decide_eq_true_eq,decide_eq_false_iff_not]at g0 g1 g2 g3;unfold ax
 repeat' split
 all_goals simp_all
theorem ab4(l:List UInt8)(i:Nat)(h0:bU l i 0=false)(h1:bU l i 1=false)(h2:bU l i 2=false)(h3:bU l i 3=false)(h4:bU l i 4=true):ax l i=(0,i+1):=by
 have g0:(decide (l[i]?=some 62) && decide (l[i+1]?=some 61))=false:=by rw[<-fQ];exact h0
 have g1:(decide (l[i]?=some 60) && decide (l[i+1]?=some 61))=false:=by rw[<-fQ];exact h1
 have g2:decide (l[i]?=some 62)=false:=by rw[<-dI];exact h2
 have g3:decide (l[i]?=some 60)=false:=by rw[<-dI];exact h3
 have g4:decide (l[i]?=some 61)=true:=by rw[<-dI];exact h4
 simp only[Bool.and_eq_false_iff,decide_eq_true_eq,decide_eq_false_iff_not]at g0 g1 g2 g3 g4;unfold ax
 repeat' split
 all_goals simp_all
theorem ab5(l:List UInt8)(i:Nat)(h0:bU l i 0=false)(h1:bU l i 1=false)(h2:bU l i 2=false)(h3:bU l i 3=false)(h4:bU l i 4=false)(h5:bU l i 5=true):ax l i=(5,i+1):=by
 have g0:(decide (l[i]?=some 62) && decide (l[i+1]?=some 61))=false:=by rw[<-fQ];exact h0
 have g1:(decide (l[i]?=some 60) && decide (l[i+1]?=some 61))=false:=by rw[<-fQ];exact h1
 have g2:decide (l[i]?=some 62)=false:=by rw[<-dI];exact h2
 have g3:decide (l[i]?=some 60)=false:=by rw[<-dI];exact h3
 have g4:decide (l[i]?=some 61)=false:=by rw[<-dI];exact h4
 have g5:decide (l[i]?=some 94)=true:=by rw[<-dI];exact h5
 simp only[Bool.and_eq_false_iff,decide_eq_true_eq,decide_eq_false_iff_not]at g0 g1 g2 g3 g4 g5;unfold ax
 repeat' split
 all_goals simp_all
theorem ab6(l:List UInt8)(i:Nat)(h0:bU l i 0=false)(h1:bU l i 1=false)(h2:bU l i 2=false)(h3:bU l i 3=false)(h4:bU l i 4=false)(h5:bU l i 5=false)(h6:bU l i 6=true):ax l i=(6,i+1):=by
 have g0:(decide (l[i]?=some 62) && decide (l[i+1]?=some 61))=false:=by rw[<-fQ];exact h0
 have g1:(decide (l[i]?=some 60) && decide (l[i+1]?=some 61))=false:=by rw[<-fQ];exact h1
 have g2:decide (l[i]?=some 62)=false:=by rw[<-dI];exact h2
 have g3:decide (l[i]?=some 60)=false:=by rw[<-dI];exact h3
 have g4:decide (l[i]?=some 61)=false:=by rw[<-dI];exact h4
 have g5:decide (l[i]?=some 94)=false:=by rw[<-dI];exact h5
 have g6:decide (l[i]?=some 126)=true:=by rw[<-dI];exact h6
 simp only[Bool.and_eq_false_iff,decide_eq_true_eq,decide_eq_false_iff_not]at g0 g1 g2 g3 g4 g5 g6;unfold ax
 repeat' split
 all_goals simp_all
theorem ab7(l:List UInt8)(i:Nat)(h0:bU l i 0=false)(h1:bU l i 1=false)(h2:bU l i 2=false)(h3:bU l i 3=false)(h4:bU l i 4=false)(h5:bU l i 5=false)(h6:bU l i 6=false):ax l i=(-1,i):=by
 have g0:(decide (l[i]?=some 62) && decide (l[i+1]?=some 61))=false:=by rw[<-fQ];exact h0
 have g1:(decide (l[i]?=some 60) && decide (l[i+1]?=some 61))=false:=by rw[<-fQ];exact h1
 have g2:decide (l[i]?=some 62)=false:=by rw[<-dI];exact h2
 have g3:decide (l[i]?=some 60)=false:=by rw[<-dI];exact h3
 have g4:decide (l[i]?=some 61)=false:=by rw[<-dI];exact h4
 have g5:decide (l[i]?=some 94)=false:=by rw[<-dI];exact h5
 have g6:decide (l[i]?=some 126)=false:=by rw[<-dI];exact h6
 simp only[Bool.and_eq_false_iff,decide_eq_false_iff_not]at g0 g1 g2 g3 g4 g5 g6;unfold ax
 repeat' split
 all_goals simp_all
def TB(A:Nat)(T F:Value)(a b c:Int)(P:ByteArray)(n:Int)(w:World):Prop:=w.heap[A]?=some (.cells #[T,F,.int .i64 a,.int .i64 b,.int .i64 c,.string P,.string ⟨#[]⟩,.int .i64 n] 234 (0,0))
theorem TB.cells{A:Nat}{T F:Value}{a b c:Int}{P:ByteArray}{n:Int}{w:World}(h:TB A T F a b c P n w):w.cell? ⟨A,0,none⟩=some T/\w.cell? ⟨A,1,none⟩=some F/\w.cell? ⟨A,2,none⟩=some (.int .i64 a)/\w.cell? ⟨A,3,none⟩=some (.int .i64 b)/\w.cell? ⟨A,4,none⟩=some (.int .i64 c)/\w.cell? ⟨A,5,none⟩=some (.string P)/\w.cell? ⟨A,6,none⟩=some (.string ⟨#[]⟩)/\w.cell? ⟨A,7,none⟩=some (.int .i64 n) :=
 ⟨by rw[ah h];rfl,by rw[ah h];rfl,by rw[ah h];rfl,by rw[ah h];rfl,by rw[ah h];rfl,by rw[ah h];rfl,by rw[ah h];rfl,by rw[ah h];rfl⟩
theorem TB.f{A:Nat}{T F:Value}{a b c:Int}{P:ByteArray}{n:Int}{w:World}(h:TB A T F a b c P n w)(o:Nat):w.frozen? ⟨A,o,none⟩=false:=Lib.frozen_of_heap h o
theorem TB.grow{A:Nat}{T F:Value}{a b c:Int}{P:ByteArray}{n:Int}{w w':World}(h:TB A T F a b c P n w)(hg:w.grownBy w' none):TB A T F a b c P n w':=by
 unfold TB at h ⊢;rw[hg.block A ((aB h)) (by simp)];exact h
theorem TB.growb{A:Nat}{T F:Value}{a b c:Int}{P:ByteArray}{n:Int}{w w':World}{q:Nat}(h:TB A T F a b c P n w)(hg:w.grownBy w' (some q))(hn:A≠q):TB A T F a b c P n w':=by
 unfold TB at h ⊢;rw[hg.block A ((aB h)) (by simpa using hn)];exact h
theorem TB.other{A V:Nat}{T F:Value}{a b c:Int}{P:ByteArray}{n:Int}{w:World}(h:TB A T F a b c P n w)(hn:A≠V)(o:Nat)(x:Value):TB A T F a b c P n (w.setCell ⟨V,o,none⟩ x):=by
 unfold TB at h ⊢;rw[heap_setCell_other w _ A x (by simpa using hn)];exact h
theorem TB.set01{A:Nat}{T F:Value}{a b c:Int}{P:ByteArray}{n:Int}{w:World}(h:TB A T F a b c P n w)(x y:Value):TB A x y a b c P n ((w.setCell ⟨A,0,none⟩ x).setCell ⟨A,1,none⟩ y):=by
 unfold TB at h ⊢;simp[World.setCell,Array.getElem?_modify,h]
def oH(w:World)(A:Nat)(T F:Value)(y1 y2 y3:Int)(x4:ByteArray)(n:Int):World:=(((((((w.setCell ⟨A,0,none⟩ T).setCell ⟨A,1,none⟩ F).setCell ⟨A,2,none⟩ (.int .i64 y1)).setCell ⟨A,3,none⟩ (.int .i64 y2)).setCell ⟨A,4,none⟩ (.int .i64 y3)).setCell ⟨A,5,none⟩ (.string x4)).setCell ⟨A,6,none⟩ (.string ⟨#[]⟩)).setCell ⟨A,7,none⟩ (.int .i64 n)
def qL(w:World)(A:Nat)(y1 y2 y3:Int)(x4:ByteArray)(n:Int):World:=(((((w.setCell ⟨A,2,none⟩ (.int .i64 y1)).setCell ⟨A,3,none⟩ (.int .i64 y2)).setCell ⟨A,4,none⟩ (.int .i64 y3)).setCell ⟨A,5,none⟩ (.string x4)).setCell ⟨A,6,none⟩ (.string ⟨#[]⟩)).setCell ⟨A,7,none⟩ (.int .i64 n)
theorem uC{w:World}{A:Nat}{T F U G:Value}{z1 z2 z3:Int}{z4:ByteArray}{m:Int}(h:TB A U G z1 z2 z3 z4 m w)(y1 y2 y3:Int)(x4:ByteArray)(n:Int):TB A T F y1 y2 y3 x4 n (oH w A T F y1 y2 y3 x4 n):=by
 unfold TB at h ⊢;simp[oH,World.setCell,Array.getElem?_modify,h]
theorem rX{b A:Nat}{s:ByteArray}{j:Nat}{w:World}(h:RS b s j w)(hn:b≠A)(T F:Value)(y1 y2 y3:Int)(x4:ByteArray)(n:Int):RS b s j (oH w A T F y1 y2 y3 x4 n):=(((((((h.other hn _ _).other hn _ _).other hn _ _).other hn _ _).other hn _ _).other hn _ _).other hn _ _).other hn _ _
theorem wE{b A:Nat}{w W:World}(h:w.grownBy W (some b))(hA:w.heap.size<=A)(T F:Value)(y1 y2 y3:Int)(x4:ByteArray)(n:Int):w.grownBy (oH W A T F y1 y2 y3 x4 n) (some b):=bu (bu (bu (bu (bu (bu (bu (bu h hA _ _) hA _ _) hA _ _) hA _ _) hA _ _) hA _ _) hA _ _) hA _ _
theorem wF{b A:Nat}{s:ByteArray}{j:Nat}{w:World}(h:RS b s j w)(hn:b≠A)(y1 y2 y3:Int)(x4:ByteArray)(n:Int):RS b s j (qL w A y1 y2 y3 x4 n):=(((((h.other hn _ _).other hn _ _).other hn _ _).other hn _ _).other hn _ _).other hn _ _
theorem wG{b A:Nat}{w W:World}(h:w.grownBy W (some b))(hA:w.heap.size<=A)(y1 y2 y3:Int)(x4:ByteArray)(n:Int):w.grownBy (qL W A y1 y2 y3 x4 n) (some b):=bu (bu (bu (bu (bu (bu h hA _ _) hA _ _) hA _ _) hA _ _) hA _ _) hA _ _
theorem wH{A V:Nat}{T F:Value}{a b c:Int}{P:ByteArray}{m:Int}{w:World}(h:TB A T F a b c P m w)(hn:A≠V)(y1 y2 y3:Int)(x4:ByteArray)(n:Int):TB A T F a b c P m (qL w V y1 y2 y3 x4 n):=(((((h.other hn _ _).other hn _ _).other hn _ _).other hn _ _).other hn _ _).other hn _ _
def SC(b:Nat)(s:ByteArray)(sg:Int)(R:Int × Nat × Pa)(w:World)(e:Ending)(w':World):Prop :=
 ∃(T:ByteArray) (x1 x2 x3:Int) (P:ByteArray) (n:Int),e=.returned (.tuple #[.agg #[.string T,.func (.func (oz sg)) #[] #[],.int .i64 x1,.int .i64 x2,.int .i64 x3,.string P,.string ⟨#[]⟩,.int .i64 n],.int .i64 R.1])/\T.toList.isEmpty=decide (sg<0)/\RS b s R.2.1 w'/\w.grownBy w' (some b)/\(R.1=0->ww x1 x2 x3 P n=kQ R.2.2)
def SR(B:Nat)(w:World):Prop:=w.heap[B]?=some (.cells Sz 230 (0,0))
theorem SR.growb{B:Nat}{w w':World}{q:Nat}(h:SR B w)(hg:w.grownBy w' (some q))(hn:B≠q):SR B w':=by
 unfold SR at h ⊢;rw[hg.block B ((aB h)) (by simpa using hn)];exact h
theorem ab8(b:Nat)(s:ByteArray)(i k:Nat)(T:ByteArray)(hT:T.data.toList=Af k)(w:World)(hi:i<=s.size)(h:RS b s i w)(hs:s.size<2 ^ 62) :
  Calls prog 128 #[.pointer (some ⟨b,0,none⟩),.string T] w fun e w'=>e=.returned (.bool (bU s.data.toList i k))/\RS b s (if bU s.data.toList i k=true then i+T.size else i) w'/\w.grownBy w' (some b):=by
 have:=take_any b s T i w hi h hs (by
  have:T.size=(Af k).length:=by rw[<-hT];simp
  rw[this];unfold Af;split<;>simp)
 rw[hT]at this;exact this
theorem ab9(b:Nat)(s:ByteArray)(i:Nat)(w:World)(hi:i<=s.size)(h:RS b s i w)(hs:s.size<=281474976710656) :
  Calls prog 159 #[.pointer (some ⟨b,0,none⟩)] w (SC b s (ax s.data.toList i).1 (ay s.data.toList (ax s.data.toList i).2) w):=by
 have kF:Hd ((ax s.data.toList i).2<=s.size):=by have:=(CU s.data.toList i (by simpa using hi)).2;simp at this;exact this
 have CT:=ae (fun(k:Nat) (T:ByteArray) (w:World) (hT:T.data.toList=Af k) (h:RS b s i w)=>ab8 b s i k T hT w hi h (by omega));have CP:=ae (fun j w (hj:j<=s.size) (h:RS b s j w)=>QO b s j w hj h hs);obtain⟨l,hl⟩:=zN (s.data.toList);rw[hl]at kF CT CP ⊢;obtain⟨sg,j,hsg⟩:∃sg j,ax l i=(sg,j):=⟨_,_,rfl⟩;rw[hsg]at kF ⊢;have lD:=ae (fun w (h:RS b s j w)=>CP.o j w kF.o h);simp only[];obtain⟨R,hR⟩:=zN (ay l j);rw[hR]at lD ⊢;have dE:=ae hsg;have HI:=ae h;have rW:Hd (b<w.heap.size):=by obtain⟨t,h⟩:=h;exact(aB h)
 have CS:=ae abY;clear hl hsg hR h hi hs CP kF;go_enter func159,ntmps159;go_wp2_with (go_at_call 177;refine(CS.o _).mono ?_);rintro e w1 ⟨rfl,hw1⟩;obtain⟨A,hA⟩:=zN (w.heap.size);have HG:Hd (w.grownBy w1 none):=by show w.grownBy w1 none;rw[hw1];exact aj (aj (aj (ak w none) _) _) _
 have aS:Hd (TB A (.string ⟨#[]⟩) .nilFunc 0 0 0 ⟨#[]⟩ 0 w1):=by
  show TB A _ _ 0 0 0 _ 0 w1;unfold TB;rw[hw1,<-hA,Lib.alloc_old _ _ _ (by simp;omega),Lib.alloc_old _ _ _ (by simp)];exact heap_alloc_new w _
 have aK:Hd (TB (A+1) (.string ⟨#[]⟩) .nilFunc 0 0 0 ⟨#[]⟩ 0 w1):=by
  show TB (A+1) _ _ 0 0 0 _ 0 w1;unfold TB;rw[hw1,<-hA,Lib.alloc_old _ _ _ (by simp)];exact mr w _ _
 have bI:Hd (SR (A+2) w1):=by
  show SR (A+2) w1;unfold SR;rw[hw1,<-hA];exact Oy w _ _ _
 have HA:Hd (w.heap.size<=A/\b<A):=⟨Nat.le_of_eq hA,by rw[<-hA];exact rW.o⟩;replace HI:=ae (HI.o.grow HG.o);have hsz:((w.alloc (.cells #[.string ⟨#[]⟩,.nilFunc,.int .i64 0,.int .i64 0,.int .i64 0,.string ⟨#[]⟩,.string ⟨#[]⟩,.int .i64 0] 234)).alloc (.cells #[.string ⟨#[]⟩,.nilFunc,.int .i64 0,.int .i64 0,.int .i64 0,.string ⟨#[]⟩,.string ⟨#[]⟩,.int .i64 0] 234)).heap.size=A+2:=by simp[hA]
 rw[hsz]
 try rw[hA]
 clear hA hw1 hsz;have ai:Hd (b≠A/\b≠A+1/\A+2≠b/\A≠A+1):=by have:=HA.o;refine⟨?_,?_,?_,?_⟩<;>omega
 have dR:Hd (w.heap.size<=A/\w.heap.size<=A+1):=by have:=HA.o;exact⟨this.1,by omega⟩
 go_wp2;go_loopw [10] (fun vi wr=>∃k:Nat,vi=.int .i64 k/\k<8/\(∀m,m<k->bU l i m=false)/\RS b s i wr/\TB A (.string ⟨#[]⟩) .nilFunc 0 0 0 ⟨#[]⟩ 0 wr/\TB (A+1) (.string ⟨#[]⟩) .nilFunc 0 0 0 ⟨#[]⟩ 0 wr/\SR (A+2) wr/\w.grownBy wr (some b)) (fun vi _=>8-(intOf vi).toNat)
 case atStart=>exact⟨0,rfl,by omega,fun m hm=>absurd hm (Nat.not_lt_zero _),HI.o,aS.o,aK.o,bI.o,bH HG.o _⟩
 case round =>
  obtain⟨k,rfl,hk,hno,hrs,hta,htb,Ew,hg⟩:=hrel;clear HI aS aK bI HG;have HI:=ae hrs;have aS:=ae hta;have aK:=ae htb;have bI:=ae Ew;have HG:=ae hg;have aU:=ae hno;clear hrs hta htb Ew hg hno;have hkk:k=0\/k=1\/k=2\/k=3\/k=4\/k=5\/k=6\/k=7:=by omega
  clear hk
  rcases hkk with rfl|rfl|rfl|rfl|rfl|rfl|rfl|rfl
  ·have s0:wr.cell? ⟨A+2,0,none⟩=some (.string ⟨#[62,61]⟩):=by rw[ah (show _=_ from bI.o)];rfl
   have s1:wr.cell? ⟨A+2,1,none⟩=some (.func (.func 191) #[] #[]):=by rw[ah (show _=_ from bI.o)];rfl
   obtain⟨D,hD⟩:=zN (wr.heap.size);obtain⟨W0,hW0⟩:=zN (wr.alloc (.cells #[.string ⟨#[]⟩,.nilFunc] 230));have HD0:Hd (W0.heap[D]?=some (.cells #[.string ⟨#[]⟩,.nilFunc] 230 (0,0))):=by show _=_;rw[<-hW0,<-hD];exact heap_alloc_new wr _
   have k0:W0.cell? ⟨D,0,none⟩=some (.string ⟨#[]⟩):=by rw[ah HD0.o];rfl
   have k1:W0.cell? ⟨D,1,none⟩=some .nilFunc:=by rw[ah HD0.o];rfl
   have kf:=Lib.frozen_of_heap HD0.o;have stf:∀(a:Addr) (m:Mode) (w:World),(store a (.func (.func 191) #[] #[]) m).run prog w=stored prog w a (.func (.func 191) #[] #[]) m:=fun a m w=>run_store prog w a _ m rfl
   go_wp2_with (fail);obtain⟨W,hW⟩:=zN ((W0.setCell ⟨D,0,none⟩ (.string ⟨#[62,61]⟩)).setCell ⟨D,1,none⟩ (.func (.func 191) #[] #[]));have hgW:wr.grownBy W none:=by rw[<-hW];exact fF (fF (by rw[<-hW0];exact aj (ak wr none) _) (Nat.le_of_eq hD) _ _) (Nat.le_of_eq hD) _ _
   have HDR:Hd (W.heap[D]?=some (.cells #[.string ⟨#[62,61]⟩,.func (.func 191) #[] #[]] 230 (0,0))):=by show _=_;have h0:=HD0.o;rw[<-hW];simp[World.setCell,Array.getElem?_modify,h0]
   have dQ:Hd (D≠b/\A+1<D):=by
    have h1:=(aB aK.o);have h2:=HA.o;rw[hD]at h1;exact⟨by omega,h1⟩
   replace HI:=ae (HI.o.grow hgW);replace aS:=ae (aS.o.grow hgW);replace aK:=ae (aK.o.grow hgW);replace bI:=ae (bI.o.growb (bH hgW (some b)) ai.o.2.2.1);replace HG:=ae (ag HG.o (bH hgW _));have d0:W.cell? ⟨D,0,none⟩=some (.string ⟨#[62,61]⟩):=by rw[ah HDR.o];rfl
   try rw[hW]
   try rw[hD]
   clear hgW hW hD s0 s1 hW0 HD0 k0 k1 kf;have dm:Hd (∀w,RS b s i w->Calls prog 128 #[.pointer (some ⟨b,0,none⟩),.string ⟨#[62,61]⟩] w fun e w'=>e=.returned (.bool (bU l i 0))/\RS b s (if bU l i 0=true then i+2 else i) w'/\w.grownBy w' (some b)):=fun w h=>CT.o 0 ⟨#[62,61]⟩ w rfl h
   cases hp:bU l i 0 with
   | true =>
    rw[hp]at dm;have gQ:Hd (∀w,RS b s i w->Calls prog 128 #[.pointer (some ⟨b,0,none⟩),.string ⟨#[62,61]⟩] w fun e w'=>e=.returned (.bool true)/\RS b s (i+2) w'/\w.grownBy w' (some b)):=dm.o;have HP:=ae hp;clear hp dm
    go_region_held3 (fun w'=>w'.cell? ⟨D,0,none⟩=some (.string ⟨#[62,61]⟩)) ((first|(simp only[gm];assumption)|(refine World.grownBy.cell (by assumption) (by assumption) ?_;simpa using dQ.o.1))) (first|(go_at_call 128;refine(gQ.o _ (by first|exact HI.o|exact HI.o.drew 1)).mono ?_;rintro e u1 ⟨rfl,hr,hg⟩))
    have hg':=bZ hg;have HD1:Hd (u1.heap[D]?=some (.cells #[.string ⟨#[62,61]⟩,.func (.func 191) #[] #[]] 230 (0,0))):=by show _=_;rw[hg'.block D ((aB HDR.o)) (by simpa using dQ.o.1)];exact HDR.o
    replace HI:=ae hr;replace aS:=ae (aS.o.growb hg' (Ne.symm ai.o.1));replace aK:=ae (aK.o.growb hg' (Ne.symm ai.o.2.1));replace bI:=ae (bI.o.growb hg' ai.o.2.2.1);replace HG:=ae (ag HG.o hg');clear hg hg' hr HDR d0 stf;have eH:=ae (abZ l i  HP.o);obtain⟨hsg,hj⟩:sg=1/\j=i+2:=by have:=dE.o.symm.trans eH.o;simpa using this
    rw[hj]at lD;have HF:Hd (oz sg=191/\(⟨#[62,61]⟩:ByteArray).toList.isEmpty=decide (sg<0)):=by rw[hsg];exact⟨rfl,(mg (by decide)).trans (by decide)⟩
    clear hsg hj aU dE eH CT CS;have stf:∀(a:Addr) (m:Mode) (w:World),(store a (.func (.func 191) #[] #[]) m).run prog w=stored prog w a (.func (.func 191) #[] #[]) m:=fun a m w=>run_store prog w a _ m rfl
    have d0:u1.cell? ⟨D,0,none⟩=some (.string ⟨#[62,61]⟩):=by rw[ah HD1.o];rfl
    have d1:u1.cell? ⟨D,1,none⟩=some (.func (.func 191) #[] #[]):=by rw[ah HD1.o];rfl
    obtain⟨b0,b1,b2,b3,b4,b5,b6,b7⟩:=aK.o.cells;have bf:=aK.o.f;go_wp2_with (first|(go_at_call 178;refine(lD.o _ ((HI.o.other ai.o.2.1 _ _).other ai.o.2.1 _ _)).mono ?_));rintro e u2 ⟨x1,x2,x3,P,n,rfl,hr,hg,hok⟩;have HR2:=ae hr;replace aK:=ae ((aK.o.set01 _ _).growb hg (Ne.symm ai.o.2.1));replace aS:=ae (((aS.o.other ai.o.2.2.2 _ _).other ai.o.2.2.2 _ _).growb hg (Ne.symm ai.o.1));replace HG:=ae (ag (bu (bu HG.o dR.o.2 _ _) dR.o.2 _ _) hg);have dF:=ae hok;clear hr hg hok b0 b1 b2 b3 b4 b5 b6 b7 bf d0 d1;obtain⟨b0,b1,b2,b3,b4,b5,b6,b7⟩:=aK.o.cells;have bf:=aK.o.f;obtain⟨a0,a1,a2,a3,a4,a5,a6,a7⟩:=aS.o.cells;have af:=aS.o.f;obtain⟨E,hE⟩:=zN (R.1);have HE:=ae hE;rw[hE];clear hE;go_wp2;have hrow:TB A (.string ⟨#[62,61]⟩) (.func (.func 191) #[] #[]) x1 x2 x3 P n (oH (qL u2 (A+1) x1 x2 x3 P n) A (.string ⟨#[62,61]⟩) (.func (.func 191) #[] #[]) x1 x2 x3 P n):=uC (wH aS.o ai.o.2.2.2 _ _ _ _ _) _ _ _ _ _
    refine bodyPost_ret (jA (p:=2) (u:=3) rfl _ _ A _ _ (0,0) _ rfl hrow underlying234 rfl (by kernel_rfl)) rfl ?_;refine⟨⟨#[62,61]⟩,x1,x2,x3,P,n,?_,HF.o.2,rX (wF HR2.o ai.o.2.1 _ _ _ _ _) ai.o.1 _ _ _ _ _ _ _,wE (wG HG.o dR.o.2 _ _ _ _ _) dR.o.1 _ _ _ _ _ _ _,dF.o⟩;rw[HF.o.1,HE.o];rfl
   | false =>
    rw[hp]at dm;have gQ:Hd (∀w,RS b s i w->Calls prog 128 #[.pointer (some ⟨b,0,none⟩),.string ⟨#[62,61]⟩] w fun e w'=>e=.returned (.bool false)/\RS b s (i) w'/\w.grownBy w' (some b)):=dm.o;have HP:=ae hp;clear hp dm
    go_region_held3 (fun w'=>w'.cell? ⟨D,0,none⟩=some (.string ⟨#[62,61]⟩)) ((first|(simp only[gm];assumption)|(refine World.grownBy.cell (by assumption) (by assumption) ?_;simpa using dQ.o.1))) (first|(go_at_call 128;refine(gQ.o _ (by first|exact HI.o|exact HI.o.drew 1)).mono ?_;rintro e u1 ⟨rfl,hr,hg⟩))
    have hg':=bZ hg;have HD1:Hd (u1.heap[D]?=some (.cells #[.string ⟨#[62,61]⟩,.func (.func 191) #[] #[]] 230 (0,0))):=by show _=_;rw[hg'.block D ((aB HDR.o)) (by simpa using dQ.o.1)];exact HDR.o
    replace HI:=ae hr;replace aS:=ae (aS.o.growb hg' (Ne.symm ai.o.1));replace aK:=ae (aK.o.growb hg' (Ne.symm ai.o.2.1));replace bI:=ae (bI.o.growb hg' ai.o.2.2.1);replace HG:=ae (ag HG.o hg');clear hg hg' hr HDR d0 stf;go_wp2;go_roundw
    case rel=>exact⟨1,rfl,by omega,fun m hm=>by rcases Nat.lt_succ_iff_lt_or_eq.1 hm with h|h;exact aU.o m h;rw[h];exact HP.o,HI.o,aS.o,aK.o,bI.o,HG.o⟩
    case measure=>simp[intOf]
  ·have s0:wr.cell? ⟨A+2,2,none⟩=some (.string ⟨#[60,61]⟩):=by rw[ah (show _=_ from bI.o)];rfl
   have s1:wr.cell? ⟨A+2,3,none⟩=some (.func (.func 192) #[] #[]):=by rw[ah (show _=_ from bI.o)];rfl
   obtain⟨D,hD⟩:=zN (wr.heap.size);obtain⟨W0,hW0⟩:=zN (wr.alloc (.cells #[.string ⟨#[]⟩,.nilFunc] 230));have HD0:Hd (W0.heap[D]?=some (.cells #[.string ⟨#[]⟩,.nilFunc] 230 (0,0))):=by show _=_;rw[<-hW0,<-hD];exact heap_alloc_new wr _
   have k0:W0.cell? ⟨D,0,none⟩=some (.string ⟨#[]⟩):=by rw[ah HD0.o];rfl
   have k1:W0.cell? ⟨D,1,none⟩=some .nilFunc:=by rw[ah HD0.o];rfl
   have kf:=Lib.frozen_of_heap HD0.o;have stf:∀(a:Addr) (m:Mode) (w:World),(store a (.func (.func 192) #[] #[]) m).run prog w=stored prog w a (.func (.func 192) #[] #[]) m:=fun a m w=>run_store prog w a _ m rfl
   go_wp2_with (fail);obtain⟨W,hW⟩:=zN ((W0.setCell ⟨D,0,none⟩ (.string ⟨#[60,61]⟩)).setCell ⟨D,1,none⟩ (.func (.func 192) #[] #[]));have hgW:wr.grownBy W none:=by rw[<-hW];exact fF (fF (by rw[<-hW0];exact aj (ak wr none) _) (Nat.le_of_eq hD) _ _) (Nat.le_of_eq hD) _ _
   have HDR:Hd (W.heap[D]?=some (.cells #[.string ⟨#[60,61]⟩,.func (.func 192) #[] #[]] 230 (0,0))):=by show _=_;have h0:=HD0.o;rw[<-hW];simp[World.setCell,Array.getElem?_modify,h0]
   have dQ:Hd (D≠b/\A+1<D):=by
    have h1:=(aB aK.o);have h2:=HA.o;rw[hD]at h1;exact⟨by omega,h1⟩
   replace HI:=ae (HI.o.grow hgW);replace aS:=ae (aS.o.grow hgW);replace aK:=ae (aK.o.grow hgW);replace bI:=ae (bI.o.growb (bH hgW (some b)) ai.o.2.2.1);replace HG:=ae (ag HG.o (bH hgW _));have d0:W.cell? ⟨D,0,none⟩=some (.string ⟨#[60,61]⟩):=by rw[ah HDR.o];rfl
   try rw[hW]
   try rw[hD]
   clear hgW hW hD s0 s1 hW0 HD0 k0 k1 kf;have dm:Hd (∀w,RS b s i w->Calls prog 128 #[.pointer (some ⟨b,0,none⟩),.string ⟨#[60,61]⟩] w fun e w'=>e=.returned (.bool (bU l i 1))/\RS b s (if bU l i 1=true then i+2 else i) w'/\w.grownBy w' (some b)):=fun w h=>CT.o 1 ⟨#[60,61]⟩ w rfl h
   cases hp:bU l i 1 with
   | true =>
    rw[hp]at dm;have gQ:Hd (∀w,RS b s i w->Calls prog 128 #[.pointer (some ⟨b,0,none⟩),.string ⟨#[60,61]⟩] w fun e w'=>e=.returned (.bool true)/\RS b s (i+2) w'/\w.grownBy w' (some b)):=dm.o;have HP:=ae hp;clear hp dm
    go_region_held3 (fun w'=>w'.cell? ⟨D,0,none⟩=some (.string ⟨#[60,61]⟩)) ((first|(simp only[gm];assumption)|(refine World.grownBy.cell (by assumption) (by assumption) ?_;simpa using dQ.o.1))) (first|(go_at_call 128;refine(gQ.o _ (by first|exact HI.o|exact HI.o.drew 1)).mono ?_;rintro e u1 ⟨rfl,hr,hg⟩))
    have hg':=bZ hg;have HD1:Hd (u1.heap[D]?=some (.cells #[.string ⟨#[60,61]⟩,.func (.func 192) #[] #[]] 230 (0,0))):=by show _=_;rw[hg'.block D ((aB HDR.o)) (by simpa using dQ.o.1)];exact HDR.o
    replace HI:=ae hr;replace aS:=ae (aS.o.growb hg' (Ne.symm ai.o.1));replace aK:=ae (aK.o.growb hg' (Ne.symm ai.o.2.1));replace bI:=ae (bI.o.growb hg' ai.o.2.2.1);replace HG:=ae (ag HG.o hg');clear hg hg' hr HDR d0 stf;have eH:=ae (ab1 l i (aU.o 0 (by omega)) HP.o);obtain⟨hsg,hj⟩:sg=2/\j=i+2:=by have:=dE.o.symm.trans eH.o;simpa using this
    rw[hj]at lD;have HF:Hd (oz sg=192/\(⟨#[60,61]⟩:ByteArray).toList.isEmpty=decide (sg<0)):=by rw[hsg];exact⟨rfl,(mg (by decide)).trans (by decide)⟩
    clear hsg hj aU dE eH CT CS;have stf:∀(a:Addr) (m:Mode) (w:World),(store a (.func (.func 192) #[] #[]) m).run prog w=stored prog w a (.func (.func 192) #[] #[]) m:=fun a m w=>run_store prog w a _ m rfl
    have d0:u1.cell? ⟨D,0,none⟩=some (.string ⟨#[60,61]⟩):=by rw[ah HD1.o];rfl
    have d1:u1.cell? ⟨D,1,none⟩=some (.func (.func 192) #[] #[]):=by rw[ah HD1.o];rfl
    obtain⟨b0,b1,b2,b3,b4,b5,b6,b7⟩:=aK.o.cells;have bf:=aK.o.f;go_wp2_with (first|(go_at_call 178;refine(lD.o _ ((HI.o.other ai.o.2.1 _ _).other ai.o.2.1 _ _)).mono ?_));rintro e u2 ⟨x1,x2,x3,P,n,rfl,hr,hg,hok⟩;have HR2:=ae hr;replace aK:=ae ((aK.o.set01 _ _).growb hg (Ne.symm ai.o.2.1));replace aS:=ae (((aS.o.other ai.o.2.2.2 _ _).other ai.o.2.2.2 _ _).growb hg (Ne.symm ai.o.1));replace HG:=ae (ag (bu (bu HG.o dR.o.2 _ _) dR.o.2 _ _) hg);have dF:=ae hok;clear hr hg hok b0 b1 b2 b3 b4 b5 b6 b7 bf d0 d1;obtain⟨b0,b1,b2,b3,b4,b5,b6,b7⟩:=aK.o.cells;have bf:=aK.o.f;obtain⟨a0,a1,a2,a3,a4,a5,a6,a7⟩:=aS.o.cells;have af:=aS.o.f;obtain⟨E,hE⟩:=zN (R.1);have HE:=ae hE;rw[hE];clear hE;go_wp2;have hrow:TB A (.string ⟨#[60,61]⟩) (.func (.func 192) #[] #[]) x1 x2 x3 P n (oH (qL u2 (A+1) x1 x2 x3 P n) A (.string ⟨#[60,61]⟩) (.func (.func 192) #[] #[]) x1 x2 x3 P n):=uC (wH aS.o ai.o.2.2.2 _ _ _ _ _) _ _ _ _ _
    refine bodyPost_ret (jA (p:=2) (u:=3) rfl _ _ A _ _ (0,0) _ rfl hrow underlying234 rfl (by kernel_rfl)) rfl ?_;refine⟨⟨#[60,61]⟩,x1,x2,x3,P,n,?_,HF.o.2,rX (wF HR2.o ai.o.2.1 _ _ _ _ _) ai.o.1 _ _ _ _ _ _ _,wE (wG HG.o dR.o.2 _ _ _ _ _) dR.o.1 _ _ _ _ _ _ _,dF.o⟩;rw[HF.o.1,HE.o];rfl
   | false =>
    rw[hp]at dm;have gQ:Hd (∀w,RS b s i w->Calls prog 128 #[.pointer (some ⟨b,0,none⟩),.string ⟨#[60,61]⟩] w fun e w'=>e=.returned (.bool false)/\RS b s (i) w'/\w.grownBy w' (some b)):=dm.o;have HP:=ae hp;clear hp dm
    go_region_held3 (fun w'=>w'.cell? ⟨D,0,none⟩=some (.string ⟨#[60,61]⟩)) ((first|(simp only[gm];assumption)|(refine World.grownBy.cell (by assumption) (by assumption) ?_;simpa using dQ.o.1))) (first|(go_at_call 128;refine(gQ.o _ (by first|exact HI.o|exact HI.o.drew 1)).mono ?_;rintro e u1 ⟨rfl,hr,hg⟩))
    have hg':=bZ hg;have HD1:Hd (u1.heap[D]?=some (.cells #[.string ⟨#[60,61]⟩,.func (.func 192) #[] #[]] 230 (0,0))):=by show _=_;rw[hg'.block D ((aB HDR.o)) (by simpa using dQ.o.1)];exact HDR.o
    replace HI:=ae hr;replace aS:=ae (aS.o.growb hg' (Ne.symm ai.o.1));replace aK:=ae (aK.o.growb hg' (Ne.symm ai.o.2.1));replace bI:=ae (bI.o.growb hg' ai.o.2.2.1);replace HG:=ae (ag HG.o hg');clear hg hg' hr HDR d0 stf;go_wp2;go_roundw
    case rel=>exact⟨2,rfl,by omega,fun m hm=>by rcases Nat.lt_succ_iff_lt_or_eq.1 hm with h|h;exact aU.o m h;rw[h];exact HP.o,HI.o,aS.o,aK.o,bI.o,HG.o⟩
    case measure=>simp[intOf]
  ·have s0:wr.cell? ⟨A+2,4,none⟩=some (.string ⟨#[62]⟩):=by rw[ah (show _=_ from bI.o)];rfl
   have s1:wr.cell? ⟨A+2,5,none⟩=some (.func (.func 193) #[] #[]):=by rw[ah (show _=_ from bI.o)];rfl
   obtain⟨D,hD⟩:=zN (wr.heap.size);obtain⟨W0,hW0⟩:=zN (wr.alloc (.cells #[.string ⟨#[]⟩,.nilFunc] 230));have HD0:Hd (W0.heap[D]?=some (.cells #[.string ⟨#[]⟩,.nilFunc] 230 (0,0))):=by show _=_;rw[<-hW0,<-hD];exact heap_alloc_new wr _
   have k0:W0.cell? ⟨D,0,none⟩=some (.string ⟨#[]⟩):=by rw[ah HD0.o];rfl
   have k1:W0.cell? ⟨D,1,none⟩=some .nilFunc:=by rw[ah HD0.o];rfl
   have kf:=Lib.frozen_of_heap HD0.o;have stf:∀(a:Addr) (m:Mode) (w:World),(store a (.func (.func 193) #[] #[]) m).run prog w=stored prog w a (.func (.func 193) #[] #[]) m:=fun a m w=>run_store prog w a _ m rfl
   go_wp2_with (fail);obtain⟨W,hW⟩:=zN ((W0.setCell ⟨D,0,none⟩ (.string ⟨#[62]⟩)).setCell ⟨D,1,none⟩ (.func (.func 193) #[] #[]));have hgW:wr.grownBy W none:=by rw[<-hW];exact fF (fF (by rw[<-hW0];exact aj (ak wr none) _) (Nat.le_of_eq hD) _ _) (Nat.le_of_eq hD) _ _
   have HDR:Hd (W.heap[D]?=some (.cells #[.string ⟨#[62]⟩,.func (.func 193) #[] #[]] 230 (0,0))):=by show _=_;have h0:=HD0.o;rw[<-hW];simp[World.setCell,Array.getElem?_modify,h0]
   have dQ:Hd (D≠b/\A+1<D):=by
    have h1:=(aB aK.o);have h2:=HA.o;rw[hD]at h1;exact⟨by omega,h1⟩
   replace HI:=ae (HI.o.grow hgW);replace aS:=ae (aS.o.grow hgW);replace aK:=ae (aK.o.grow hgW);replace bI:=ae (bI.o.growb (bH hgW (some b)) ai.o.2.2.1);replace HG:=ae (ag HG.o (bH hgW _));have d0:W.cell? ⟨D,0,none⟩=some (.string ⟨#[62]⟩):=by rw[ah HDR.o];rfl
   try rw[hW]
   try rw[hD]
   clear hgW hW hD s0 s1 hW0 HD0 k0 k1 kf;have dm:Hd (∀w,RS b s i w->Calls prog 128 #[.pointer (some ⟨b,0,none⟩),.string ⟨#[62]⟩] w fun e w'=>e=.returned (.bool (bU l i 2))/\RS b s (if bU l i 2=true then i+1 else i) w'/\w.grownBy w' (some b)):=fun w h=>CT.o 2 ⟨#[62]⟩ w rfl h
   cases hp:bU l i 2 with
   | true =>
    rw[hp]at dm;have gQ:Hd (∀w,RS b s i w->Calls prog 128 #[.pointer (some ⟨b,0,none⟩),.string ⟨#[62]⟩] w fun e w'=>e=.returned (.bool true)/\RS b s (i+1) w'/\w.grownBy w' (some b)):=dm.o;have HP:=ae hp;clear hp dm
    go_region_held3 (fun w'=>w'.cell? ⟨D,0,none⟩=some (.string ⟨#[62]⟩)) ((first|(simp only[gm];assumption)|(refine World.grownBy.cell (by assumption) (by assumption) ?_;simpa using dQ.o.1))) (first|(go_at_call 128;refine(gQ.o _ (by first|exact HI.o|exact HI.o.drew 1)).mono ?_;rintro e u1 ⟨rfl,hr,hg⟩))
    have hg':=bZ hg;have HD1:Hd (u1.heap[D]?=some (.cells #[.string ⟨#[62]⟩,.func (.func 193) #[] #[]] 230 (0,0))):=by show _=_;rw[hg'.block D ((aB HDR.o)) (by simpa using dQ.o.1)];exact HDR.o
    replace HI:=ae hr;replace aS:=ae (aS.o.growb hg' (Ne.symm ai.o.1));replace aK:=ae (aK.o.growb hg' (Ne.symm ai.o.2.1));replace bI:=ae (bI.o.growb hg' ai.o.2.2.1);replace HG:=ae (ag HG.o hg');clear hg hg' hr HDR d0 stf;have eH:=ae (ab2 l i (aU.o 0 (by omega)) (aU.o 1 (by omega)) HP.o);obtain⟨hsg,hj⟩:sg=3/\j=i+1:=by have:=dE.o.symm.trans eH.o;simpa using this
    rw[hj]at lD;have HF:Hd (oz sg=193/\(⟨#[62]⟩:ByteArray).toList.isEmpty=decide (sg<0)):=by rw[hsg];exact⟨rfl,(mg (by decide)).trans (by decide)⟩
    clear hsg hj aU dE eH CT CS;have stf:∀(a:Addr) (m:Mode) (w:World),(store a (.func (.func 193) #[] #[]) m).run prog w=stored prog w a (.func (.func 193) #[] #[]) m:=fun a m w=>run_store prog w a _ m rfl
    have d0:u1.cell? ⟨D,0,none⟩=some (.string ⟨#[62]⟩):=by rw[ah HD1.o];rfl
    have d1:u1.cell? ⟨D,1,none⟩=some (.func (.func 193) #[] #[]):=by rw[ah HD1.o];rfl
    obtain⟨b0,b1,b2,b3,b4,b5,b6,b7⟩:=aK.o.cells;have bf:=aK.o.f;go_wp2_with (first|(go_at_call 178;refine(lD.o _ ((HI.o.other ai.o.2.1 _ _).other ai.o.2.1 _ _)).mono ?_));rintro e u2 ⟨x1,x2,x3,P,n,rfl,hr,hg,hok⟩;have HR2:=ae hr;replace aK:=ae ((aK.o.set01 _ _).growb hg (Ne.symm ai.o.2.1));replace aS:=ae (((aS.o.other ai.o.2.2.2 _ _).other ai.o.2.2.2 _ _).growb hg (Ne.symm ai.o.1));replace HG:=ae (ag (bu (bu HG.o dR.o.2 _ _) dR.o.2 _ _) hg);have dF:=ae hok;clear hr hg hok b0 b1 b2 b3 b4 b5 b6 b7 bf d0 d1;obtain⟨b0,b1,b2,b3,b4,b5,b6,b7⟩:=aK.o.cells;have bf:=aK.o.f;obtain⟨a0,a1,a2,a3,a4,a5,a6,a7⟩:=aS.o.cells;have af:=aS.o.f;obtain⟨E,hE⟩:=zN (R.1);have HE:=ae hE;rw[hE];clear hE;go_wp2;have hrow:TB A (.string ⟨#[62]⟩) (.func (.func 193) #[] #[]) x1 x2 x3 P n (oH (qL u2 (A+1) x1 x2 x3 P n) A (.string ⟨#[62]⟩) (.func (.func 193) #[] #[]) x1 x2 x3 P n):=uC (wH aS.o ai.o.2.2.2 _ _ _ _ _) _ _ _ _ _
    refine bodyPost_ret (jA (p:=2) (u:=3) rfl _ _ A _ _ (0,0) _ rfl hrow underlying234 rfl (by kernel_rfl)) rfl ?_;refine⟨⟨#[62]⟩,x1,x2,x3,P,n,?_,HF.o.2,rX (wF HR2.o ai.o.2.1 _ _ _ _ _) ai.o.1 _ _ _ _ _ _ _,wE (wG HG.o dR.o.2 _ _ _ _ _) dR.o.1 _ _ _ _ _ _ _,dF.o⟩;rw[HF.o.1,HE.o];rfl
   | false =>
    rw[hp]at dm;have gQ:Hd (∀w,RS b s i w->Calls prog 128 #[.pointer (some ⟨b,0,none⟩),.string ⟨#[62]⟩] w fun e w'=>e=.returned (.bool false)/\RS b s (i) w'/\w.grownBy w' (some b)):=dm.o;have HP:=ae hp;clear hp dm
    go_region_held3 (fun w'=>w'.cell? ⟨D,0,none⟩=some (.string ⟨#[62]⟩)) ((first|(simp only[gm];assumption)|(refine World.grownBy.cell (by assumption) (by assumption) ?_;simpa using dQ.o.1))) (first|(go_at_call 128;refine(gQ.o _ (by first|exact HI.o|exact HI.o.drew 1)).mono ?_;rintro e u1 ⟨rfl,hr,hg⟩))
    have hg':=bZ hg;have HD1:Hd (u1.heap[D]?=some (.cells #[.string ⟨#[62]⟩,.func (.func 193) #[] #[]] 230 (0,0))):=by show _=_;rw[hg'.block D ((aB HDR.o)) (by simpa using dQ.o.1)];exact HDR.o
    replace HI:=ae hr;replace aS:=ae (aS.o.growb hg' (Ne.symm ai.o.1));replace aK:=ae (aK.o.growb hg' (Ne.symm ai.o.2.1));replace bI:=ae (bI.o.growb hg' ai.o.2.2.1);replace HG:=ae (ag HG.o hg');clear hg hg' hr HDR d0 stf;go_wp2;go_roundw
    case rel=>exact⟨3,rfl,by omega,fun m hm=>by rcases Nat.lt_succ_iff_lt_or_eq.1 hm with h|h;exact aU.o m h;rw[h];exact HP.o,HI.o,aS.o,aK.o,bI.o,HG.o⟩
    case measure=>simp[intOf]
  ·have s0:wr.cell? ⟨A+2,6,none⟩=some (.string ⟨#[60]⟩):=by rw[ah (show _=_ from bI.o)];rfl
   have s1:wr.cell? ⟨A+2,7,none⟩=some (.func (.func 194) #[] #[]):=by rw[ah (show _=_ from bI.o)];rfl
   obtain⟨D,hD⟩:=zN (wr.heap.size);obtain⟨W0,hW0⟩:=zN (wr.alloc (.cells #[.string ⟨#[]⟩,.nilFunc] 230));have HD0:Hd (W0.heap[D]?=some (.cells #[.string ⟨#[]⟩,.nilFunc] 230 (0,0))):=by show _=_;rw[<-hW0,<-hD];exact heap_alloc_new wr _
   have k0:W0.cell? ⟨D,0,none⟩=some (.string ⟨#[]⟩):=by rw[ah HD0.o];rfl
   have k1:W0.cell? ⟨D,1,none⟩=some .nilFunc:=by rw[ah HD0.o];rfl
   have kf:=Lib.frozen_of_heap HD0.o;have stf:∀(a:Addr) (m:Mode) (w:World),(store a (.func (.func 194) #[] #[]) m).run prog w=stored prog w a (.func (.func 194) #[] #[]) m:=fun a m w=>run_store prog w a _ m rfl
   go_wp2_with (fail);obtain⟨W,hW⟩:=zN ((W0.setCell ⟨D,0,none⟩ (.string ⟨#[60]⟩)).setCell ⟨D,1,none⟩ (.func (.func 194) #[] #[]));have hgW:wr.grownBy W none:=by rw[<-hW];exact fF (fF (by rw[<-hW0];exact aj (ak wr none) _) (Nat.le_of_eq hD) _ _) (Nat.le_of_eq hD) _ _
   have HDR:Hd (W.heap[D]?=some (.cells #[.string ⟨#[60]⟩,.func (.func 194) #[] #[]] 230 (0,0))):=by show _=_;have h0:=HD0.o;rw[<-hW];simp[World.setCell,Array.getElem?_modify,h0]
   have dQ:Hd (D≠b/\A+1<D):=by
    have h1:=(aB aK.o);have h2:=HA.o;rw[hD]at h1;exact⟨by omega,h1⟩
   replace HI:=ae (HI.o.grow hgW);replace aS:=ae (aS.o.grow hgW);replace aK:=ae (aK.o.grow hgW);replace bI:=ae (bI.o.growb (bH hgW (some b)) ai.o.2.2.1);replace HG:=ae (ag HG.o (bH hgW _));have d0:W.cell? ⟨D,0,none⟩=some (.string ⟨#[60]⟩):=by rw[ah HDR.o];rfl
   try rw[hW]
   try rw[hD]
   clear hgW hW hD s0 s1 hW0 HD0 k0 k1 kf;have dm:Hd (∀w,RS b s i w->Calls prog 128 #[.pointer (some ⟨b,0,none⟩),.string ⟨#[60]⟩] w fun e w'=>e=.returned (.bool (bU l i 3))/\RS b s (if bU l i 3=true then i+1 else i) w'/\w.grownBy w' (some b)):=fun w h=>CT.o 3 ⟨#[60]⟩ w rfl h
   cases hp:bU l i 3 with
   | true =>
    rw[hp]at dm;have gQ:Hd (∀w,RS b s i w->Calls prog 128 #[.pointer (some ⟨b,0,none⟩),.string ⟨#[60]⟩] w fun e w'=>e=.returned (.bool true)/\RS b s (i+1) w'/\w.grownBy w' (some b)):=dm.o;have HP:=ae hp;clear hp dm
    go_region_held3 (fun w'=>w'.cell? ⟨D,0,none⟩=some (.string ⟨#[60]⟩)) ((first|(simp only[gm];assumption)|(refine World.grownBy.cell (by assumption) (by assumption) ?_;simpa using dQ.o.1))) (first|(go_at_call 128;refine(gQ.o _ (by first|exact HI.o|exact HI.o.drew 1)).mono ?_;rintro e u1 ⟨rfl,hr,hg⟩))
    have hg':=bZ hg;have HD1:Hd (u1.heap[D]?=some (.cells #[.string ⟨#[60]⟩,.func (.func 194) #[] #[]] 230 (0,0))):=by show _=_;rw[hg'.block D ((aB HDR.o)) (by simpa using dQ.o.1)];exact HDR.o
    replace HI:=ae hr;replace aS:=ae (aS.o.growb hg' (Ne.symm ai.o.1));replace aK:=ae (aK.o.growb hg' (Ne.symm ai.o.2.1));replace bI:=ae (bI.o.growb hg' ai.o.2.2.1);replace HG:=ae (ag HG.o hg');clear hg hg' hr HDR d0 stf;have eH:=ae (ab3 l i (aU.o 0 (by omega)) (aU.o 1 (by omega)) (aU.o 2 (by omega)) HP.o);obtain⟨hsg,hj⟩:sg=4/\j=i+1:=by have:=dE.o.symm.trans eH.o;simpa using this
    rw[hj]at lD;have HF:Hd (oz sg=194/\(⟨#[60]⟩:ByteArray).toList.isEmpty=decide (sg<0)):=by rw[hsg];exact⟨rfl,(mg (by decide)).trans (by decide)⟩
    clear hsg hj aU dE eH CT CS;have stf:∀(a:Addr) (m:Mode) (w:World),(store a (.func (.func 194) #[] #[]) m).run prog w=stored prog w a (.func (.func 194) #[] #[]) m:=fun a m w=>run_store prog w a _ m rfl
    have d0:u1.cell? ⟨D,0,none⟩=some (.string ⟨#[60]⟩):=by rw[ah HD1.o];rfl
    have d1:u1.cell? ⟨D,1,none⟩=some (.func (.func 194) #[] #[]):=by rw[ah HD1.o];rfl
    obtain⟨b0,b1,b2,b3,b4,b5,b6,b7⟩:=aK.o.cells;have bf:=aK.o.f;go_wp2_with (first|(go_at_call 178;refine(lD.o _ ((HI.o.other ai.o.2.1 _ _).other ai.o.2.1 _ _)).mono ?_));rintro e u2 ⟨x1,x2,x3,P,n,rfl,hr,hg,hok⟩;have HR2:=ae hr;replace aK:=ae ((aK.o.set01 _ _).growb hg (Ne.symm ai.o.2.1));replace aS:=ae (((aS.o.other ai.o.2.2.2 _ _).other ai.o.2.2.2 _ _).growb hg (Ne.symm ai.o.1));replace HG:=ae (ag (bu (bu HG.o dR.o.2 _ _) dR.o.2 _ _) hg);have dF:=ae hok;clear hr hg hok b0 b1 b2 b3 b4 b5 b6 b7 bf d0 d1;obtain⟨b0,b1,b2,b3,b4,b5,b6,b7⟩:=aK.o.cells;have bf:=aK.o.f;obtain⟨a0,a1,a2,a3,a4,a5,a6,a7⟩:=aS.o.cells;have af:=aS.o.f;obtain⟨E,hE⟩:=zN (R.1);have HE:=ae hE;rw[hE];clear hE;go_wp2;have hrow:TB A (.string ⟨#[60]⟩) (.func (.func 194) #[] #[]) x1 x2 x3 P n (oH (qL u2 (A+1) x1 x2 x3 P n) A (.string ⟨#[60]⟩) (.func (.func 194) #[] #[]) x1 x2 x3 P n):=uC (wH aS.o ai.o.2.2.2 _ _ _ _ _) _ _ _ _ _
    refine bodyPost_ret (jA (p:=2) (u:=3) rfl _ _ A _ _ (0,0) _ rfl hrow underlying234 rfl (by kernel_rfl)) rfl ?_;refine⟨⟨#[60]⟩,x1,x2,x3,P,n,?_,HF.o.2,rX (wF HR2.o ai.o.2.1 _ _ _ _ _) ai.o.1 _ _ _ _ _ _ _,wE (wG HG.o dR.o.2 _ _ _ _ _) dR.o.1 _ _ _ _ _ _ _,dF.o⟩;rw[HF.o.1,HE.o];rfl
   | false =>
    rw[hp]at dm;have gQ:Hd (∀w,RS b s i w->Calls prog 128 #[.pointer (some ⟨b,0,none⟩),.string ⟨#[60]⟩] w fun e w'=>e=.returned (.bool false)/\RS b s (i) w'/\w.grownBy w' (some b)):=dm.o;have HP:=ae hp;clear hp dm
    go_region_held3 (fun w'=>w'.cell? ⟨D,0,none⟩=some (.string ⟨#[60]⟩)) ((first|(simp only[gm];assumption)|(refine World.grownBy.cell (by assumption) (by assumption) ?_;simpa using dQ.o.1))) (first|(go_at_call 128;refine(gQ.o _ (by first|exact HI.o|exact HI.o.drew 1)).mono ?_;rintro e u1 ⟨rfl,hr,hg⟩))
    have hg':=bZ hg;have HD1:Hd (u1.heap[D]?=some (.cells #[.string ⟨#[60]⟩,.func (.func 194) #[] #[]] 230 (0,0))):=by show _=_;rw[hg'.block D ((aB HDR.o)) (by simpa using dQ.o.1)];exact HDR.o
    replace HI:=ae hr;replace aS:=ae (aS.o.growb hg' (Ne.symm ai.o.1));replace aK:=ae (aK.o.growb hg' (Ne.symm ai.o.2.1));replace bI:=ae (bI.o.growb hg' ai.o.2.2.1);replace HG:=ae (ag HG.o hg');clear hg hg' hr HDR d0 stf;go_wp2;go_roundw
    case rel=>exact⟨4,rfl,by omega,fun m hm=>by rcases Nat.lt_succ_iff_lt_or_eq.1 hm with h|h;exact aU.o m h;rw[h];exact HP.o,HI.o,aS.o,aK.o,bI.o,HG.o⟩
    case measure=>simp[intOf]
  ·have s0:wr.cell? ⟨A+2,8,none⟩=some (.string ⟨#[61]⟩):=by rw[ah (show _=_ from bI.o)];rfl
   have s1:wr.cell? ⟨A+2,9,none⟩=some (.func (.func 195) #[] #[]):=by rw[ah (show _=_ from bI.o)];rfl
   obtain⟨D,hD⟩:=zN (wr.heap.size);obtain⟨W0,hW0⟩:=zN (wr.alloc (.cells #[.string ⟨#[]⟩,.nilFunc] 230));have HD0:Hd (W0.heap[D]?=some (.cells #[.string ⟨#[]⟩,.nilFunc] 230 (0,0))):=by show _=_;rw[<-hW0,<-hD];exact heap_alloc_new wr _
   have k0:W0.cell? ⟨D,0,none⟩=some (.string ⟨#[]⟩):=by rw[ah HD0.o];rfl
   have k1:W0.cell? ⟨D,1,none⟩=some .nilFunc:=by rw[ah HD0.o];rfl
   have kf:=Lib.frozen_of_heap HD0.o;have stf:∀(a:Addr) (m:Mode) (w:World),(store a (.func (.func 195) #[] #[]) m).run prog w=stored prog w a (.func (.func 195) #[] #[]) m:=fun a m w=>run_store prog w a _ m rfl
   go_wp2_with (fail);obtain⟨W,hW⟩:=zN ((W0.setCell ⟨D,0,none⟩ (.string ⟨#[61]⟩)).setCell ⟨D,1,none⟩ (.func (.func 195) #[] #[]));have hgW:wr.grownBy W none:=by rw[<-hW];exact fF (fF (by rw[<-hW0];exact aj (ak wr none) _) (Nat.le_of_eq hD) _ _) (Nat.le_of_eq hD) _ _
   have HDR:Hd (W.heap[D]?=some (.cells #[.string ⟨#[61]⟩,.func (.func 195) #[] #[]] 230 (0,0))):=by show _=_;have h0:=HD0.o;rw[<-hW];simp[World.setCell,Array.getElem?_modify,h0]
   have dQ:Hd (D≠b/\A+1<D):=by
    have h1:=(aB aK.o);have h2:=HA.o;rw[hD]at h1;exact⟨by omega,h1⟩
   replace HI:=ae (HI.o.grow hgW);replace aS:=ae (aS.o.grow hgW);replace aK:=ae (aK.o.grow hgW);replace bI:=ae (bI.o.growb (bH hgW (some b)) ai.o.2.2.1);replace HG:=ae (ag HG.o (bH hgW _));have d0:W.cell? ⟨D,0,none⟩=some (.string ⟨#[61]⟩):=by rw[ah HDR.o];rfl
   try rw[hW]
   try rw[hD]
   clear hgW hW hD s0 s1 hW0 HD0 k0 k1 kf;have dm:Hd (∀w,RS b s i w->Calls prog 128 #[.pointer (some ⟨b,0,none⟩),.string ⟨#[61]⟩] w fun e w'=>e=.returned (.bool (bU l i 4))/\RS b s (if bU l i 4=true then i+1 else i) w'/\w.grownBy w' (some b)):=fun w h=>CT.o 4 ⟨#[61]⟩ w rfl h
   cases hp:bU l i 4 with
   | true =>
    rw[hp]at dm;have gQ:Hd (∀w,RS b s i w->Calls prog 128 #[.pointer (some ⟨b,0,none⟩),.string ⟨#[61]⟩] w fun e w'=>e=.returned (.bool true)/\RS b s (i+1) w'/\w.grownBy w' (some b)):=dm.o;have HP:=ae hp;clear hp dm
    go_region_held3 (fun w'=>w'.cell? ⟨D,0,none⟩=some (.string ⟨#[61]⟩)) ((first|(simp only[gm];assumption)|(refine World.grownBy.cell (by assumption) (by assumption) ?_;simpa using dQ.o.1))) (first|(go_at_call 128;refine(gQ.o _ (by first|exact HI.o|exact HI.o.drew 1)).mono ?_;rintro e u1 ⟨rfl,hr,hg⟩))
    have hg':=bZ hg;have HD1:Hd (u1.heap[D]?=some (.cells #[.string ⟨#[61]⟩,.func (.func 195) #[] #[]] 230 (0,0))):=by show _=_;rw[hg'.block D ((aB HDR.o)) (by simpa using dQ.o.1)];exact HDR.o
    replace HI:=ae hr;replace aS:=ae (aS.o.growb hg' (Ne.symm ai.o.1));replace aK:=ae (aK.o.growb hg' (Ne.symm ai.o.2.1));replace bI:=ae (bI.o.growb hg' ai.o.2.2.1);replace HG:=ae (ag HG.o hg');clear hg hg' hr HDR d0 stf;have eH:=ae (ab4 l i (aU.o 0 (by omega)) (aU.o 1 (by omega)) (aU.o 2 (by omega)) (aU.o 3 (by omega)) HP.o);obtain⟨hsg,hj⟩:sg=0/\j=i+1:=by have:=dE.o.symm.trans eH.o;simpa using this
    rw[hj]at lD;have HF:Hd (oz sg=195/\(⟨#[61]⟩:ByteArray).toList.isEmpty=decide (sg<0)):=by rw[hsg];exact⟨rfl,(mg (by decide)).trans (by decide)⟩
    clear hsg hj aU dE eH CT CS;have stf:∀(a:Addr) (m:Mode) (w:World),(store a (.func (.func 195) #[] #[]) m).run prog w=stored prog w a (.func (.func 195) #[] #[]) m:=fun a m w=>run_store prog w a _ m rfl
    have d0:u1.cell? ⟨D,0,none⟩=some (.string ⟨#[61]⟩):=by rw[ah HD1.o];rfl
    have d1:u1.cell? ⟨D,1,none⟩=some (.func (.func 195) #[] #[]):=by rw[ah HD1.o];rfl
    obtain⟨b0,b1,b2,b3,b4,b5,b6,b7⟩:=aK.o.cells;have bf:=aK.o.f;go_wp2_with (first|(go_at_call 178;refine(lD.o _ ((HI.o.other ai.o.2.1 _ _).other ai.o.2.1 _ _)).mono ?_));rintro e u2 ⟨x1,x2,x3,P,n,rfl,hr,hg,hok⟩;have HR2:=ae hr;replace aK:=ae ((aK.o.set01 _ _).growb hg (Ne.symm ai.o.2.1));replace aS:=ae (((aS.o.other ai.o.2.2.2 _ _).other ai.o.2.2.2 _ _).growb hg (Ne.symm ai.o.1));replace HG:=ae (ag (bu (bu HG.o dR.o.2 _ _) dR.o.2 _ _) hg);have dF:=ae hok;clear hr hg hok b0 b1 b2 b3 b4 b5 b6 b7 bf d0 d1;obtain⟨b0,b1,b2,b3,b4,b5,b6,b7⟩:=aK.o.cells;have bf:=aK.o.f;obtain⟨a0,a1,a2,a3,a4,a5,a6,a7⟩:=aS.o.cells;have af:=aS.o.f;obtain⟨E,hE⟩:=zN (R.1);have HE:=ae hE;rw[hE];clear hE;go_wp2;have hrow:TB A (.string ⟨#[61]⟩) (.func (.func 195) #[] #[]) x1 x2 x3 P n (oH (qL u2 (A+1) x1 x2 x3 P n) A (.string ⟨#[61]⟩) (.func (.func 195) #[] #[]) x1 x2 x3 P n):=uC (wH aS.o ai.o.2.2.2 _ _ _ _ _) _ _ _ _ _
    refine bodyPost_ret (jA (p:=2) (u:=3) rfl _ _ A _ _ (0,0) _ rfl hrow underlying234 rfl (by kernel_rfl)) rfl ?_;refine⟨⟨#[61]⟩,x1,x2,x3,P,n,?_,HF.o.2,rX (wF HR2.o ai.o.2.1 _ _ _ _ _) ai.o.1 _ _ _ _ _ _ _,wE (wG HG.o dR.o.2 _ _ _ _ _) dR.o.1 _ _ _ _ _ _ _,dF.o⟩;rw[HF.o.1,HE.o];rfl
   | false =>
    rw[hp]at dm;have gQ:Hd (∀w,RS b s i w->Calls prog 128 #[.pointer (some ⟨b,0,none⟩),.string ⟨#[61]⟩] w fun e w'=>e=.returned (.bool false)/\RS b s (i) w'/\w.grownBy w' (some b)):=dm.o;have HP:=ae hp;clear hp dm
    go_region_held3 (fun w'=>w'.cell? ⟨D,0,none⟩=some (.string ⟨#[61]⟩)) ((first|(simp only[gm];assumption)|(refine World.grownBy.cell (by assumption) (by assumption) ?_;simpa using dQ.o.1))) (first|(go_at_call 128;refine(gQ.o _ (by first|exact HI.o|exact HI.o.drew 1)).mono ?_;rintro e u1 ⟨rfl,hr,hg⟩))
    have hg':=bZ hg;have HD1:Hd (u1.heap[D]?=some (.cells #[.string ⟨#[61]⟩,.func (.func 195) #[] #[]] 230 (0,0))):=by show _=_;rw[hg'.block D ((aB HDR.o)) (by simpa using dQ.o.1)];exact HDR.o
    replace HI:=ae hr;replace aS:=ae (aS.o.growb hg' (Ne.symm ai.o.1));replace aK:=ae (aK.o.growb hg' (Ne.symm ai.o.2.1));replace bI:=ae (bI.o.growb hg' ai.o.2.2.1);replace HG:=ae (ag HG.o hg');clear hg hg' hr HDR d0 stf;go_wp2;go_roundw
    case rel=>exact⟨5,rfl,by omega,fun m hm=>by rcases Nat.lt_succ_iff_lt_or_eq.1 hm with h|h;exact aU.o m h;rw[h];exact HP.o,HI.o,aS.o,aK.o,bI.o,HG.o⟩
    case measure=>simp[intOf]
  ·have s0:wr.cell? ⟨A+2,10,none⟩=some (.string ⟨#[94]⟩):=by rw[ah (show _=_ from bI.o)];rfl
   have s1:wr.cell? ⟨A+2,11,none⟩=some (.func (.func 196) #[] #[]):=by rw[ah (show _=_ from bI.o)];rfl
   obtain⟨D,hD⟩:=zN (wr.heap.size);obtain⟨W0,hW0⟩:=zN (wr.alloc (.cells #[.string ⟨#[]⟩,.nilFunc] 230));have HD0:Hd (W0.heap[D]?=some (.cells #[.string ⟨#[]⟩,.nilFunc] 230 (0,0))):=by show _=_;rw[<-hW0,<-hD];exact heap_alloc_new wr _
   have k0:W0.cell? ⟨D,0,none⟩=some (.string ⟨#[]⟩):=by rw[ah HD0.o];rfl
   have k1:W0.cell? ⟨D,1,none⟩=some .nilFunc:=by rw[ah HD0.o];rfl
   have kf:=Lib.frozen_of_heap HD0.o;have stf:∀(a:Addr) (m:Mode) (w:World),(store a (.func (.func 196) #[] #[]) m).run prog w=stored prog w a (.func (.func 196) #[] #[]) m:=fun a m w=>run_store prog w a _ m rfl
   go_wp2_with (fail);obtain⟨W,hW⟩:=zN ((W0.setCell ⟨D,0,none⟩ (.string ⟨#[94]⟩)).setCell ⟨D,1,none⟩ (.func (.func 196) #[] #[]));have hgW:wr.grownBy W none:=by rw[<-hW];exact fF (fF (by rw[<-hW0];exact aj (ak wr none) _) (Nat.le_of_eq hD) _ _) (Nat.le_of_eq hD) _ _
   have HDR:Hd (W.heap[D]?=some (.cells #[.string ⟨#[94]⟩,.func (.func 196) #[] #[]] 230 (0,0))):=by show _=_;have h0:=HD0.o;rw[<-hW];simp[World.setCell,Array.getElem?_modify,h0]
   have dQ:Hd (D≠b/\A+1<D):=by
    have h1:=(aB aK.o);have h2:=HA.o;rw[hD]at h1;exact⟨by omega,h1⟩
   replace HI:=ae (HI.o.grow hgW);replace aS:=ae (aS.o.grow hgW);replace aK:=ae (aK.o.grow hgW);replace bI:=ae (bI.o.growb (bH hgW (some b)) ai.o.2.2.1);replace HG:=ae (ag HG.o (bH hgW _));have d0:W.cell? ⟨D,0,none⟩=some (.string ⟨#[94]⟩):=by rw[ah HDR.o];rfl
   try rw[hW]
   try rw[hD]
   clear hgW hW hD s0 s1 hW0 HD0 k0 k1 kf;have dm:Hd (∀w,RS b s i w->Calls prog 128 #[.pointer (some ⟨b,0,none⟩),.string ⟨#[94]⟩] w fun e w'=>e=.returned (.bool (bU l i 5))/\RS b s (if bU l i 5=true then i+1 else i) w'/\w.grownBy w' (some b)):=fun w h=>CT.o 5 ⟨#[94]⟩ w rfl h
   cases hp:bU l i 5 with
   | true =>
    rw[hp]at dm;have gQ:Hd (∀w,RS b s i w->Calls prog 128 #[.pointer (some ⟨b,0,none⟩),.string ⟨#[94]⟩] w fun e w'=>e=.returned (.bool true)/\RS b s (i+1) w'/\w.grownBy w' (some b)):=dm.o;have HP:=ae hp;clear hp dm
    go_region_held3 (fun w'=>w'.cell? ⟨D,0,none⟩=some (.string ⟨#[94]⟩)) ((first|(simp only[gm];assumption)|(refine World.grownBy.cell (by assumption) (by assumption) ?_;simpa using dQ.o.1))) (first|(go_at_call 128;refine(gQ.o _ (by first|exact HI.o|exact HI.o.drew 1)).mono ?_;rintro e u1 ⟨rfl,hr,hg⟩))
    have hg':=bZ hg;have HD1:Hd (u1.heap[D]?=some (.cells #[.string ⟨#[94]⟩,.func (.func 196) #[] #[]] 230 (0,0))):=by show _=_;rw[hg'.block D ((aB HDR.o)) (by simpa using dQ.o.1)];exact HDR.o
    replace HI:=ae hr;replace aS:=ae (aS.o.growb hg' (Ne.symm ai.o.1));replace aK:=ae (aK.o.growb hg' (Ne.symm ai.o.2.1));replace bI:=ae (bI.o.growb hg' ai.o.2.2.1);replace HG:=ae (ag HG.o hg');clear hg hg' hr HDR d0 stf;have eH:=ae (ab5 l i (aU.o 0 (by omega)) (aU.o 1 (by omega)) (aU.o 2 (by omega)) (aU.o 3 (by omega)) (aU.o 4 (by omega)) HP.o);obtain⟨hsg,hj⟩:sg=5/\j=i+1:=by have:=dE.o.symm.trans eH.o;simpa using this
    rw[hj]at lD;have HF:Hd (oz sg=196/\(⟨#[94]⟩:ByteArray).toList.isEmpty=decide (sg<0)):=by rw[hsg];exact⟨rfl,(mg (by decide)).trans (by decide)⟩
    clear hsg hj aU dE eH CT CS;have stf:∀(a:Addr) (m:Mode) (w:World),(store a (.func (.func 196) #[] #[]) m).run prog w=stored prog w a (.func (.func 196) #[] #[]) m:=fun a m w=>run_store prog w a _ m rfl
    have d0:u1.cell? ⟨D,0,none⟩=some (.string ⟨#[94]⟩):=by rw[ah HD1.o];rfl
    have d1:u1.cell? ⟨D,1,none⟩=some (.func (.func 196) #[] #[]):=by rw[ah HD1.o];rfl
    obtain⟨b0,b1,b2,b3,b4,b5,b6,b7⟩:=aK.o.cells;have bf:=aK.o.f;go_wp2_with (first|(go_at_call 178;refine(lD.o _ ((HI.o.other ai.o.2.1 _ _).other ai.o.2.1 _ _)).mono ?_));rintro e u2 ⟨x1,x2,x3,P,n,rfl,hr,hg,hok⟩;have HR2:=ae hr;replace aK:=ae ((aK.o.set01 _ _).growb hg (Ne.symm ai.o.2.1));replace aS:=ae (((aS.o.other ai.o.2.2.2 _ _).other ai.o.2.2.2 _ _).growb hg (Ne.symm ai.o.1));replace HG:=ae (ag (bu (bu HG.o dR.o.2 _ _) dR.o.2 _ _) hg);have dF:=ae hok;clear hr hg hok b0 b1 b2 b3 b4 b5 b6 b7 bf d0 d1;obtain⟨b0,b1,b2,b3,b4,b5,b6,b7⟩:=aK.o.cells;have bf:=aK.o.f;obtain⟨a0,a1,a2,a3,a4,a5,a6,a7⟩:=aS.o.cells;have af:=aS.o.f;obtain⟨E,hE⟩:=zN (R.1);have HE:=ae hE;rw[hE];clear hE;go_wp2;have hrow:TB A (.string ⟨#[94]⟩) (.func (.func 196) #[] #[]) x1 x2 x3 P n (oH (qL u2 (A+1) x1 x2 x3 P n) A (.string ⟨#[94]⟩) (.func (.func 196) #[] #[]) x1 x2 x3 P n):=uC (wH aS.o ai.o.2.2.2 _ _ _ _ _) _ _ _ _ _
    refine bodyPost_ret (jA (p:=2) (u:=3) rfl _ _ A _ _ (0,0) _ rfl hrow underlying234 rfl (by kernel_rfl)) rfl ?_;refine⟨⟨#[94]⟩,x1,x2,x3,P,n,?_,HF.o.2,rX (wF HR2.o ai.o.2.1 _ _ _ _ _) ai.o.1 _ _ _ _ _ _ _,wE (wG HG.o dR.o.2 _ _ _ _ _) dR.o.1 _ _ _ _ _ _ _,dF.o⟩;rw[HF.o.1,HE.o];rfl
   | false =>
    rw[hp]at dm;have gQ:Hd (∀w,RS b s i w->Calls prog 128 #[.pointer (some ⟨b,0,none⟩),.string ⟨#[94]⟩] w fun e w'=>e=.returned (.bool false)/\RS b s (i) w'/\w.grownBy w' (some b)):=dm.o;have HP:=ae hp;clear hp dm
    go_region_held3 (fun w'=>w'.cell? ⟨D,0,none⟩=some (.string ⟨#[94]⟩)) ((first|(simp only[gm];assumption)|(refine World.grownBy.cell (by assumption) (by assumption) ?_;simpa using dQ.o.1))) (first|(go_at_call 128;refine(gQ.o _ (by first|exact HI.o|exact HI.o.drew 1)).mono ?_;rintro e u1 ⟨rfl,hr,hg⟩))
    have hg':=bZ hg;have HD1:Hd (u1.heap[D]?=some (.cells #[.string ⟨#[94]⟩,.func (.func 196) #[] #[]] 230 (0,0))):=by show _=_;rw[hg'.block D ((aB HDR.o)) (by simpa using dQ.o.1)];exact HDR.o
    replace HI:=ae hr;replace aS:=ae (aS.o.growb hg' (Ne.symm ai.o.1));replace aK:=ae (aK.o.growb hg' (Ne.symm ai.o.2.1));replace bI:=ae (bI.o.growb hg' ai.o.2.2.1);replace HG:=ae (ag HG.o hg');clear hg hg' hr HDR d0 stf;go_wp2;go_roundw
    case rel=>exact⟨6,rfl,by omega,fun m hm=>by rcases Nat.lt_succ_iff_lt_or_eq.1 hm with h|h;exact aU.o m h;rw[h];exact HP.o,HI.o,aS.o,aK.o,bI.o,HG.o⟩
    case measure=>simp[intOf]
  ·have s0:wr.cell? ⟨A+2,12,none⟩=some (.string ⟨#[126]⟩):=by rw[ah (show _=_ from bI.o)];rfl
   have s1:wr.cell? ⟨A+2,13,none⟩=some (.func (.func 199) #[] #[]):=by rw[ah (show _=_ from bI.o)];rfl
   obtain⟨D,hD⟩:=zN (wr.heap.size);obtain⟨W0,hW0⟩:=zN (wr.alloc (.cells #[.string ⟨#[]⟩,.nilFunc] 230));have HD0:Hd (W0.heap[D]?=some (.cells #[.string ⟨#[]⟩,.nilFunc] 230 (0,0))):=by show _=_;rw[<-hW0,<-hD];exact heap_alloc_new wr _
   have k0:W0.cell? ⟨D,0,none⟩=some (.string ⟨#[]⟩):=by rw[ah HD0.o];rfl
   have k1:W0.cell? ⟨D,1,none⟩=some .nilFunc:=by rw[ah HD0.o];rfl
   have kf:=Lib.frozen_of_heap HD0.o;have stf:∀(a:Addr) (m:Mode) (w:World),(store a (.func (.func 199) #[] #[]) m).run prog w=stored prog w a (.func (.func 199) #[] #[]) m:=fun a m w=>run_store prog w a _ m rfl
   go_wp2_with (fail);obtain⟨W,hW⟩:=zN ((W0.setCell ⟨D,0,none⟩ (.string ⟨#[126]⟩)).setCell ⟨D,1,none⟩ (.func (.func 199) #[] #[]));have hgW:wr.grownBy W none:=by rw[<-hW];exact fF (fF (by rw[<-hW0];exact aj (ak wr none) _) (Nat.le_of_eq hD) _ _) (Nat.le_of_eq hD) _ _
   have HDR:Hd (W.heap[D]?=some (.cells #[.string ⟨#[126]⟩,.func (.func 199) #[] #[]] 230 (0,0))):=by show _=_;have h0:=HD0.o;rw[<-hW];simp[World.setCell,Array.getElem?_modify,h0]
   have dQ:Hd (D≠b/\A+1<D):=by
    have h1:=(aB aK.o);have h2:=HA.o;rw[hD]at h1;exact⟨by omega,h1⟩
   replace HI:=ae (HI.o.grow hgW);replace aS:=ae (aS.o.grow hgW);replace aK:=ae (aK.o.grow hgW);replace bI:=ae (bI.o.growb (bH hgW (some b)) ai.o.2.2.1);replace HG:=ae (ag HG.o (bH hgW _));have d0:W.cell? ⟨D,0,none⟩=some (.string ⟨#[126]⟩):=by rw[ah HDR.o];rfl
   try rw[hW]
   try rw[hD]
   clear hgW hW hD s0 s1 hW0 HD0 k0 k1 kf;have dm:Hd (∀w,RS b s i w->Calls prog 128 #[.pointer (some ⟨b,0,none⟩),.string ⟨#[126]⟩] w fun e w'=>e=.returned (.bool (bU l i 6))/\RS b s (if bU l i 6=true then i+1 else i) w'/\w.grownBy w' (some b)):=fun w h=>CT.o 6 ⟨#[126]⟩ w rfl h
   cases hp:bU l i 6 with
   | true =>
    rw[hp]at dm;have gQ:Hd (∀w,RS b s i w->Calls prog 128 #[.pointer (some ⟨b,0,none⟩),.string ⟨#[126]⟩] w fun e w'=>e=.returned (.bool true)/\RS b s (i+1) w'/\w.grownBy w' (some b)):=dm.o;have HP:=ae hp;clear hp dm
    go_region_held3 (fun w'=>w'.cell? ⟨D,0,none⟩=some (.string ⟨#[126]⟩)) ((first|(simp only[gm];assumption)|(refine World.grownBy.cell (by assumption) (by assumption) ?_;simpa using dQ.o.1))) (first|(go_at_call 128;refine(gQ.o _ (by first|exact HI.o|exact HI.o.drew 1)).mono ?_;rintro e u1 ⟨rfl,hr,hg⟩))
    have hg':=bZ hg;have HD1:Hd (u1.heap[D]?=some (.cells #[.string ⟨#[126]⟩,.func (.func 199) #[] #[]] 230 (0,0))):=by show _=_;rw[hg'.block D ((aB HDR.o)) (by simpa using dQ.o.1)];exact HDR.o
    replace HI:=ae hr;replace aS:=ae (aS.o.growb hg' (Ne.symm ai.o.1));replace aK:=ae (aK.o.growb hg' (Ne.symm ai.o.2.1));replace bI:=ae (bI.o.growb hg' ai.o.2.2.1);replace HG:=ae (ag HG.o hg');clear hg hg' hr HDR d0 stf;have eH:=ae (ab6 l i (aU.o 0 (by omega)) (aU.o 1 (by omega)) (aU.o 2 (by omega)) (aU.o 3 (by omega)) (aU.o 4 (by omega)) (aU.o 5 (by omega)) HP.o);obtain⟨hsg,hj⟩:sg=6/\j=i+1:=by have:=dE.o.symm.trans eH.o;simpa using this
    rw[hj]at lD;have HF:Hd (oz sg=199/\(⟨#[126]⟩:ByteArray).toList.isEmpty=decide (sg<0)):=by rw[hsg];exact⟨rfl,(mg (by decide)).trans (by decide)⟩
    clear hsg hj aU dE eH CT CS;have stf:∀(a:Addr) (m:Mode) (w:World),(store a (.func (.func 199) #[] #[]) m).run prog w=stored prog w a (.func (.func 199) #[] #[]) m:=fun a m w=>run_store prog w a _ m rfl
    have d0:u1.cell? ⟨D,0,none⟩=some (.string ⟨#[126]⟩):=by rw[ah HD1.o];rfl
    have d1:u1.cell? ⟨D,1,none⟩=some (.func (.func 199) #[] #[]):=by rw[ah HD1.o];rfl
    obtain⟨b0,b1,b2,b3,b4,b5,b6,b7⟩:=aK.o.cells;have bf:=aK.o.f;go_wp2_with (first|(go_at_call 178;refine(lD.o _ ((HI.o.other ai.o.2.1 _ _).other ai.o.2.1 _ _)).mono ?_));rintro e u2 ⟨x1,x2,x3,P,n,rfl,hr,hg,hok⟩;have HR2:=ae hr;replace aK:=ae ((aK.o.set01 _ _).growb hg (Ne.symm ai.o.2.1));replace aS:=ae (((aS.o.other ai.o.2.2.2 _ _).other ai.o.2.2.2 _ _).growb hg (Ne.symm ai.o.1));replace HG:=ae (ag (bu (bu HG.o dR.o.2 _ _) dR.o.2 _ _) hg);have dF:=ae hok;clear hr hg hok b0 b1 b2 b3 b4 b5 b6 b7 bf d0 d1;obtain⟨b0,b1,b2,b3,b4,b5,b6,b7⟩:=aK.o.cells;have bf:=aK.o.f;obtain⟨a0,a1,a2,a3,a4,a5,a6,a7⟩:=aS.o.cells;have af:=aS.o.f;obtain⟨E,hE⟩:=zN (R.1);have HE:=ae hE;rw[hE];clear hE;go_wp2;have hrow:TB A (.string ⟨#[126]⟩) (.func (.func 199) #[] #[]) x1 x2 x3 P n (oH (qL u2 (A+1) x1 x2 x3 P n) A (.string ⟨#[126]⟩) (.func (.func 199) #[] #[]) x1 x2 x3 P n):=uC (wH aS.o ai.o.2.2.2 _ _ _ _ _) _ _ _ _ _
    refine bodyPost_ret (jA (p:=2) (u:=3) rfl _ _ A _ _ (0,0) _ rfl hrow underlying234 rfl (by kernel_rfl)) rfl ?_;refine⟨⟨#[126]⟩,x1,x2,x3,P,n,?_,HF.o.2,rX (wF HR2.o ai.o.2.1 _ _ _ _ _) ai.o.1 _ _ _ _ _ _ _,wE (wG HG.o dR.o.2 _ _ _ _ _) dR.o.1 _ _ _ _ _ _ _,dF.o⟩;rw[HF.o.1,HE.o];rfl
   | false =>
    rw[hp]at dm;have gQ:Hd (∀w,RS b s i w->Calls prog 128 #[.pointer (some ⟨b,0,none⟩),.string ⟨#[126]⟩] w fun e w'=>e=.returned (.bool false)/\RS b s (i) w'/\w.grownBy w' (some b)):=dm.o;have HP:=ae hp;clear hp dm
    go_region_held3 (fun w'=>w'.cell? ⟨D,0,none⟩=some (.string ⟨#[126]⟩)) ((first|(simp only[gm];assumption)|(refine World.grownBy.cell (by assumption) (by assumption) ?_;simpa using dQ.o.1))) (first|(go_at_call 128;refine(gQ.o _ (by first|exact HI.o|exact HI.o.drew 1)).mono ?_;rintro e u1 ⟨rfl,hr,hg⟩))
    have hg':=bZ hg;have HD1:Hd (u1.heap[D]?=some (.cells #[.string ⟨#[126]⟩,.func (.func 199) #[] #[]] 230 (0,0))):=by show _=_;rw[hg'.block D ((aB HDR.o)) (by simpa using dQ.o.1)];exact HDR.o
    replace HI:=ae hr;replace aS:=ae (aS.o.growb hg' (Ne.symm ai.o.1));replace aK:=ae (aK.o.growb hg' (Ne.symm ai.o.2.1));replace bI:=ae (bI.o.growb hg' ai.o.2.2.1);replace HG:=ae (ag HG.o hg');clear hg hg' hr HDR d0 stf;go_wp2;go_roundw
    case rel=>exact⟨7,rfl,by omega,fun m hm=>by rcases Nat.lt_succ_iff_lt_or_eq.1 hm with h|h;exact aU.o m h;rw[h];exact HP.o,HI.o,aS.o,aK.o,bI.o,HG.o⟩
    case measure=>simp[intOf]
  ·have s0:wr.cell? ⟨A+2,14,none⟩=some (.string ⟨#[]⟩):=by rw[ah (show _=_ from bI.o)];rfl
   have s1:wr.cell? ⟨A+2,15,none⟩=some (.func (.func 195) #[] #[]):=by rw[ah (show _=_ from bI.o)];rfl
   obtain⟨D,hD⟩:=zN (wr.heap.size);obtain⟨W0,hW0⟩:=zN (wr.alloc (.cells #[.string ⟨#[]⟩,.nilFunc] 230));have HD0:Hd (W0.heap[D]?=some (.cells #[.string ⟨#[]⟩,.nilFunc] 230 (0,0))):=by show _=_;rw[<-hW0,<-hD];exact heap_alloc_new wr _
   have k0:W0.cell? ⟨D,0,none⟩=some (.string ⟨#[]⟩):=by rw[ah HD0.o];rfl
   have k1:W0.cell? ⟨D,1,none⟩=some .nilFunc:=by rw[ah HD0.o];rfl
   have kf:=Lib.frozen_of_heap HD0.o;have stf:∀(a:Addr) (m:Mode) (w:World),(store a (.func (.func 195) #[] #[]) m).run prog w=stored prog w a (.func (.func 195) #[] #[]) m:=fun a m w=>run_store prog w a _ m rfl
   go_wp2_with (fail);obtain⟨W,hW⟩:=zN ((W0.setCell ⟨D,0,none⟩ (.string ⟨#[]⟩)).setCell ⟨D,1,none⟩ (.func (.func 195) #[] #[]));have hgW:wr.grownBy W none:=by rw[<-hW];exact fF (fF (by rw[<-hW0];exact aj (ak wr none) _) (Nat.le_of_eq hD) _ _) (Nat.le_of_eq hD) _ _
   have HDR:Hd (W.heap[D]?=some (.cells #[.string ⟨#[]⟩,.func (.func 195) #[] #[]] 230 (0,0))):=by show _=_;have h0:=HD0.o;rw[<-hW];simp[World.setCell,Array.getElem?_modify,h0]
   have dQ:Hd (D≠b/\A+1<D):=by
    have h1:=(aB aK.o);have h2:=HA.o;rw[hD]at h1;exact⟨by omega,h1⟩
   replace HI:=ae (HI.o.grow hgW);replace aS:=ae (aS.o.grow hgW);replace aK:=ae (aK.o.grow hgW);replace bI:=ae (bI.o.growb (bH hgW (some b)) ai.o.2.2.1);replace HG:=ae (ag HG.o (bH hgW _));have d0:W.cell? ⟨D,0,none⟩=some (.string ⟨#[]⟩):=by rw[ah HDR.o];rfl
   try rw[hW]
   try rw[hD]
   clear hgW hW hD s0 s1 hW0 HD0 k0 k1 kf;have dm:Hd (∀w,RS b s i w->Calls prog 128 #[.pointer (some ⟨b,0,none⟩),.string ⟨#[]⟩] w fun e w'=>e=.returned (.bool (bU l i 7))/\RS b s (if bU l i 7=true then i+0 else i) w'/\w.grownBy w' (some b)):=fun w h=>CT.o 7 ⟨#[]⟩ w rfl h
   cases hp:bU l i 7 with
   | true =>
    rw[hp]at dm;have gQ:Hd (∀w,RS b s i w->Calls prog 128 #[.pointer (some ⟨b,0,none⟩),.string ⟨#[]⟩] w fun e w'=>e=.returned (.bool true)/\RS b s (i) w'/\w.grownBy w' (some b)):=dm.o;have HP:=ae hp;clear hp dm
    go_region_held3 (fun w'=>w'.cell? ⟨D,0,none⟩=some (.string ⟨#[]⟩)) ((first|(simp only[gm];assumption)|(refine World.grownBy.cell (by assumption) (by assumption) ?_;simpa using dQ.o.1))) (first|(go_at_call 128;refine(gQ.o _ (by first|exact HI.o|exact HI.o.drew 1)).mono ?_;rintro e u1 ⟨rfl,hr,hg⟩))
    have hg':=bZ hg;have HD1:Hd (u1.heap[D]?=some (.cells #[.string ⟨#[]⟩,.func (.func 195) #[] #[]] 230 (0,0))):=by show _=_;rw[hg'.block D ((aB HDR.o)) (by simpa using dQ.o.1)];exact HDR.o
    replace HI:=ae hr;replace aS:=ae (aS.o.growb hg' (Ne.symm ai.o.1));replace aK:=ae (aK.o.growb hg' (Ne.symm ai.o.2.1));replace bI:=ae (bI.o.growb hg' ai.o.2.2.1);replace HG:=ae (ag HG.o hg');clear hg hg' hr HDR d0 stf;have eH:=ae (ab7 l i (aU.o 0 (by omega)) (aU.o 1 (by omega)) (aU.o 2 (by omega)) (aU.o 3 (by omega)) (aU.o 4 (by omega)) (aU.o 5 (by omega)) (aU.o 6 (by omega)));obtain⟨hsg,hj⟩:sg=-1/\j=i:=by have:=dE.o.symm.trans eH.o;simpa using this
    rw[hj]at lD;have HF:Hd (oz sg=195/\(⟨#[]⟩:ByteArray).toList.isEmpty=decide (sg<0)):=by rw[hsg];exact⟨rfl,(sZ (by decide)).trans (by decide)⟩
    clear hsg hj aU dE eH CT CS;have stf:∀(a:Addr) (m:Mode) (w:World),(store a (.func (.func 195) #[] #[]) m).run prog w=stored prog w a (.func (.func 195) #[] #[]) m:=fun a m w=>run_store prog w a _ m rfl
    have d0:u1.cell? ⟨D,0,none⟩=some (.string ⟨#[]⟩):=by rw[ah HD1.o];rfl
    have d1:u1.cell? ⟨D,1,none⟩=some (.func (.func 195) #[] #[]):=by rw[ah HD1.o];rfl
    obtain⟨b0,b1,b2,b3,b4,b5,b6,b7⟩:=aK.o.cells;have bf:=aK.o.f;go_wp2_with (first|(go_at_call 178;refine(lD.o _ ((HI.o.other ai.o.2.1 _ _).other ai.o.2.1 _ _)).mono ?_));rintro e u2 ⟨x1,x2,x3,P,n,rfl,hr,hg,hok⟩;have HR2:=ae hr;replace aK:=ae ((aK.o.set01 _ _).growb hg (Ne.symm ai.o.2.1));replace aS:=ae (((aS.o.other ai.o.2.2.2 _ _).other ai.o.2.2.2 _ _).growb hg (Ne.symm ai.o.1));replace HG:=ae (ag (bu (bu HG.o dR.o.2 _ _) dR.o.2 _ _) hg);have dF:=ae hok;clear hr hg hok b0 b1 b2 b3 b4 b5 b6 b7 bf d0 d1;obtain⟨b0,b1,b2,b3,b4,b5,b6,b7⟩:=aK.o.cells;have bf:=aK.o.f;obtain⟨a0,a1,a2,a3,a4,a5,a6,a7⟩:=aS.o.cells;have af:=aS.o.f;obtain⟨E,hE⟩:=zN (R.1);have HE:=ae hE;rw[hE];clear hE;go_wp2;have hrow:TB A (.string ⟨#[]⟩) (.func (.func 195) #[] #[]) x1 x2 x3 P n (oH (qL u2 (A+1) x1 x2 x3 P n) A (.string ⟨#[]⟩) (.func (.func 195) #[] #[]) x1 x2 x3 P n):=uC (wH aS.o ai.o.2.2.2 _ _ _ _ _) _ _ _ _ _
    refine bodyPost_ret (jA (p:=2) (u:=3) rfl _ _ A _ _ (0,0) _ rfl hrow underlying234 rfl (by kernel_rfl)) rfl ?_;refine⟨⟨#[]⟩,x1,x2,x3,P,n,?_,HF.o.2,rX (wF HR2.o ai.o.2.1 _ _ _ _ _) ai.o.1 _ _ _ _ _ _ _,wE (wG HG.o dR.o.2 _ _ _ _ _) dR.o.1 _ _ _ _ _ _ _,dF.o⟩;rw[HF.o.1,HE.o];rfl
   | false =>
    have:bU l i 7=true:=by unfold bU Af;cases l.drop i<;>rfl
    rw[this]at hp
    cases hp
end Go.Proofs.YteciokcdpadmpaaGreatDoor
