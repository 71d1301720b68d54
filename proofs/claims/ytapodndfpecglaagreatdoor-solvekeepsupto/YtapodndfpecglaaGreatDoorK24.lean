import Derived.Test.YtapodndfpecglaaGreatDoorK17
import Derived.Test.YtapodndfpecglaaGreatDoorK18
set_option linter.all false
set_option maxRecDepth 100000
set_option maxHeartbeats 0
open Go.Proofs.Tryz
namespace Go.Proofs.YtapodndfpecglaaGreatDoor
open Go.RowKit
def QI:Array Value:=#[.string ⟨#[62,61]⟩,.func (.func 189) #[] #[],.string ⟨#[60,61]⟩,.func (.func 190) #[] #[],.string ⟨#[62]⟩,.func (.func 191) #[] #[],.string ⟨#[60]⟩,.func (.func 192) #[] #[],.string ⟨#[61]⟩,.func (.func 193) #[] #[],.string ⟨#[94]⟩,.func (.func 194) #[] #[],.string ⟨#[126]⟩,.func (.func 197) #[] #[],.string ⟨#[]⟩,.func (.func 193) #[] #[]]
theorem abz(w:World):Calls prog 173 #[] w fun e w'=>e=.returned (.slice (some ⟨w.heap.size,0,none⟩) 8 8)/\w'=w.alloc (.cells QI 225):=by
 go_enter func173,ntmps173;go_wp2;go_ret;exact⟨rfl,rfl⟩
def zB(k:Nat):List UInt8:=match k with|0=>[62,61]|1=>[60,61]|2=>[62]|3=>[60]|4=>[61]|5=>[94]|6=>[126]|_=>[]
def bJ(l:List UInt8)(i k:Nat):Bool:=Lib.hasPrefix (l.drop i) (zB k)
theorem fH(l:List UInt8)(i:Nat)(a c:UInt8):Lib.hasPrefix (l.drop i) [a,c]=(decide (l[i]?=some a) && decide (l[i+1]?=some c)):=by
 have e0:l[i]?=(l.drop i)[0]?:=by rw[List.getElem?_drop];rfl
 have e1:l[i+1]?=(l.drop i)[1]?:=by rw[List.getElem?_drop]
 rw[e0,e1]
 cases l.drop i with
 | nil=>rfl
 | cons x r =>
  cases r with
  | nil =>
   show(a == x && false)=_;simp
  | cons y r =>
   show(a == x && (c == y && true))=(decide (some x=some a) && decide (some y=some c));rw[Bool.eq_iff_iff];simp only[Bool.and_eq_true,beq_iff_eq,decide_eq_true_eq,Option.some.injEq,and_true];exact⟨fun h=>⟨h.1.symm,h.2.symm⟩,fun h=>⟨h.1.symm,h.2.symm⟩⟩
theorem abA(l:List UInt8)(i:Nat)  (h0:bJ l i 0=true):ax l i=(1,i+2):=by
 have g0:(decide (l[i]?=some 62) && decide (l[i+1]?=some 61))=true:=by rw[<-fH];exact h0
 simp only[Bool.and_eq_true,decide_eq_true_eq]at g0;unfold ax
 repeat' split
 all_goals simp_all
theorem abB(l:List UInt8)(i:Nat)(h0:bJ l i 0=false)(h1:bJ l i 1=true):ax l i=(2,i+2):=by
 have g0:(decide (l[i]?=some 62) && decide (l[i+1]?=some 61))=false:=by rw[<-fH];exact h0
 have g1:(decide (l[i]?=some 60) && decide (l[i+1]?=some 61))=true:=by rw[<-fH];exact h1
 simp only[Bool.and_eq_true,Bool.and_eq_false_iff,decide_eq_true_eq,decide_eq_false_iff_not]at g0 g1;unfold ax
 repeat' split
 all_goals simp_all
theorem abC(l:List UInt8)(i:Nat)(h0:bJ l i 0=false)(h1:bJ l i 1=false)(h2:bJ l i 2=true):ax l i=(3,i+1):=by
 have g0:(decide (l[i]?=some 62) && decide (l[i+1]?=some 61))=false:=by rw[<-fH];exact h0
 have g1:(decide (l[i]?=some 60) && decide (l[i+1]?=some 61))=false:=by rw[<-fH];exact h1
 have g2:decide (l[i]?=some 62)=true:=by rw[<-dB];exact h2
 simp only[Bool.and_eq_false_iff,decide_eq_true_eq,decide_eq_false_iff_not]at g0 g1 g2;unfold ax
 repeat' split
 all_goals simp_all
theorem abD(l:List UInt8)(i:Nat)(h0:bJ l i 0=false)(h1:bJ l i 1=false)(h2:bJ l i 2=false)(h3:bJ l i 3=true):ax l i=(4,i+1):=by
 have g0:(decide (l[i]?=some 62) && decide (l[i+1]?=some 61))=false:=by rw[<-fH];exact h0
 have g1:(decide (l[i]?=some 60) && decide (l[i+1]?=some 61))=false:=by rw[<-fH];exact h1
 have g2:decide (l[i]?=some 62)=false:=by rw[<-dB];exact h2
 have g3:decide (l[i]?=some 60)=true:=by rw[<-dB];exact h3
 simp only[Bool.and_eq_false_iff,decide_eq_true_eq,decide_eq_false_iff_not]at g0 g1 g2 g3;unfold ax
 repeat' split
 all_goals simp_all
theorem abE(l:List UInt8)(i:Nat)(h0:bJ l i 0=false)(h1:bJ l i 1=false)(h2:bJ l i 2=false)(h3:bJ l i 3=false)(h4:bJ l i 4=true):ax l i=(0,i+1):=by
 have g0:(decide (l[i]?=some 62) && decide (l[i+1]?=some 61))=false:=by rw[<-fH];exact h0
 have g1:(decide (l[i]?=some 60) && decide (l[i+1]?=some 61))=false:=by rw[<-fH];exact h1
 have g2:decide (l[i]?=some 62)=false:=by rw[<-dB];exact h2
 have g3:decide (l[i]?=some 60)=false:=by rw[<-dB];exact h3
 have g4:decide (l[i]?=some 61)=true:=by rw[<-dB];exact h4
 simp only[Bool.and_eq_false_iff,decide_eq_true_eq,decide_eq_false_iff_not]at g0 g1 g2 g3 g4;unfold ax
 repeat' split
 all_goals simp_all
theorem abG(l:List UInt8)(i:Nat)(h0:bJ l i 0=false)(h1:bJ l i 1=false)(h2:bJ l i 2=false)(h3:bJ l i 3=false)(h4:bJ l i 4=false)(h5:bJ l i 5=true):ax l i=(5,i+1):=by
 have g0:(decide (l[i]?=some 62) && decide (l[i+1]?=some 61))=false:=by rw[<-fH];exact h0
 have g1:(decide (l[i]?=some 60) && decide (l[i+1]?=some 61))=false:=by rw[<-fH];exact h1
 have g2:decide (l[i]?=some 62)=false:=by rw[<-dB];exact h2
 have g3:decide (l[i]?=some 60)=false:=by rw[<-dB];exact h3
 have g4:decide (l[i]?=some 61)=false:=by rw[<-dB];exact h4
 have g5:decide (l[i]?=some 94)=true:=by rw[<-dB];exact h5
 simp only[Bool.and_eq_false_iff,decide_eq_true_eq,decide_eq_false_iff_not]at g0 g1 g2 g3 g4 g5;unfold ax
 repeat' split
 all_goals simp_all
theorem abH(l:List UInt8)(i:Nat)(h0:bJ l i 0=false)(h1:bJ l i 1=false)(h2:bJ l i 2=false)(h3:bJ l i 3=false)(h4:bJ l i 4=false)(h5:bJ l i 5=false)(h6:bJ l i 6=true):ax l i=(6,i+1):=by
 have g0:(decide (l[i]?=some 62) && decide (l[i+1]?=some 61))=false:=by rw[<-fH];exact h0
 have g1:(decide (l[i]?=some 60) && decide (l[i+1]?=some 61))=false:=by rw[<-fH];exact h1
 have g2:decide (l[i]?=some 62)=false:=by rw[<-dB];exact h2
 have g3:decide (l[i]?=some 60)=false:=by rw[<-dB];exact h3
 have g4:decide (l[i]?=some 61)=false:=by rw[<-dB];exact h4
 have g5:decide (l[i]?=some 94)=false:=by rw[<-dB];exact h5
 have g6:decide (l[i]?=some 126)=true:=by rw[<-dB];exact h6
 simp only[Bool.and_eq_false_iff,decide_eq_true_eq,decide_eq_false_iff_not]at g0 g1 g2 g3 g4 g5 g6;unfold ax
 repeat' split
 all_goals simp_all
theorem abI(l:List UInt8)(i:Nat)(h0:bJ l i 0=false)(h1:bJ l i 1=false)(h2:bJ l i 2=false)(h3:bJ l i 3=false)(h4:bJ l i 4=false)(h5:bJ l i 5=false)(h6:bJ l i 6=false):ax l i=(-1,i):=by
 have g0:(decide (l[i]?=some 62) && decide (l[i+1]?=some 61))=false:=by rw[<-fH];exact h0
 have g1:(decide (l[i]?=some 60) && decide (l[i+1]?=some 61))=false:=by rw[<-fH];exact h1
 have g2:decide (l[i]?=some 62)=false:=by rw[<-dB];exact h2
 have g3:decide (l[i]?=some 60)=false:=by rw[<-dB];exact h3
 have g4:decide (l[i]?=some 61)=false:=by rw[<-dB];exact h4
 have g5:decide (l[i]?=some 94)=false:=by rw[<-dB];exact h5
 have g6:decide (l[i]?=some 126)=false:=by rw[<-dB];exact h6
 simp only[Bool.and_eq_false_iff,decide_eq_false_iff_not]at g0 g1 g2 g3 g4 g5 g6;unfold ax
 repeat' split
 all_goals simp_all
def TB(A:Nat)(T F:Value)(a b c:Int)(P:ByteArray)(n:Int)(w:World):Prop:=w.heap[A]?=some (.cells #[T,F,.int .i64 a,.int .i64 b,.int .i64 c,.string P,.string ⟨#[]⟩,.int .i64 n] 229 (0,0))
theorem TB.cells{A:Nat}{T F:Value}{a b c:Int}{P:ByteArray}{n:Int}{w:World}(h:TB A T F a b c P n w):w.cell? ⟨A,0,none⟩=some T/\w.cell? ⟨A,1,none⟩=some F/\w.cell? ⟨A,2,none⟩=some (.int .i64 a)/\w.cell? ⟨A,3,none⟩=some (.int .i64 b)/\w.cell? ⟨A,4,none⟩=some (.int .i64 c)/\w.cell? ⟨A,5,none⟩=some (.string P)/\w.cell? ⟨A,6,none⟩=some (.string ⟨#[]⟩)/\w.cell? ⟨A,7,none⟩=some (.int .i64 n) :=
 ⟨by rw[ag h];rfl,by rw[ag h];rfl,by rw[ag h];rfl,by rw[ag h];rfl,by rw[ag h];rfl,by rw[ag h];rfl,by rw[ag h];rfl,by rw[ag h];rfl⟩
theorem TB.f{A:Nat}{T F:Value}{a b c:Int}{P:ByteArray}{n:Int}{w:World}(h:TB A T F a b c P n w)(o:Nat):w.frozen? ⟨A,o,none⟩=false:=Lib.frozen_of_heap h o
theorem TB.grow{A:Nat}{T F:Value}{a b c:Int}{P:ByteArray}{n:Int}{w w':World}(h:TB A T F a b c P n w)(hg:w.grownBy w' none):TB A T F a b c P n w':=by
 unfold TB at h ⊢;rw[hg.block A ((aA h)) (by simp)];exact h
theorem TB.growb{A:Nat}{T F:Value}{a b c:Int}{P:ByteArray}{n:Int}{w w':World}{q:Nat}(h:TB A T F a b c P n w)(hg:w.grownBy w' (some q))(hn:A≠q):TB A T F a b c P n w':=by
 unfold TB at h ⊢;rw[hg.block A ((aA h)) (by simpa using hn)];exact h
theorem TB.other{A V:Nat}{T F:Value}{a b c:Int}{P:ByteArray}{n:Int}{w:World}(h:TB A T F a b c P n w)(hn:A≠V)(o:Nat)(x:Value):TB A T F a b c P n (w.setCell ⟨V,o,none⟩ x):=by
 unfold TB at h ⊢;rw[heap_setCell_other w _ A x (by simpa using hn)];exact h
theorem TB.set01{A:Nat}{T F:Value}{a b c:Int}{P:ByteArray}{n:Int}{w:World}(h:TB A T F a b c P n w)(x y:Value):TB A x y a b c P n ((w.setCell ⟨A,0,none⟩ x).setCell ⟨A,1,none⟩ y):=by
 unfold TB at h ⊢;simp[World.setCell,Array.getElem?_modify,h]
def nI(w:World)(A:Nat)(T F:Value)(y1 y2 y3:Int)(x4:ByteArray)(n:Int):World:=(((((((w.setCell ⟨A,0,none⟩ T).setCell ⟨A,1,none⟩ F).setCell ⟨A,2,none⟩ (.int .i64 y1)).setCell ⟨A,3,none⟩ (.int .i64 y2)).setCell ⟨A,4,none⟩ (.int .i64 y3)).setCell ⟨A,5,none⟩ (.string x4)).setCell ⟨A,6,none⟩ (.string ⟨#[]⟩)).setCell ⟨A,7,none⟩ (.int .i64 n)
def pO(w:World)(A:Nat)(y1 y2 y3:Int)(x4:ByteArray)(n:Int):World:=(((((w.setCell ⟨A,2,none⟩ (.int .i64 y1)).setCell ⟨A,3,none⟩ (.int .i64 y2)).setCell ⟨A,4,none⟩ (.int .i64 y3)).setCell ⟨A,5,none⟩ (.string x4)).setCell ⟨A,6,none⟩ (.string ⟨#[]⟩)).setCell ⟨A,7,none⟩ (.int .i64 n)
theorem tC{w:World}{A:Nat}{T F U G:Value}{z1 z2 z3:Int}{z4:ByteArray}{m:Int}(h:TB A U G z1 z2 z3 z4 m w)(y1 y2 y3:Int)(x4:ByteArray)(n:Int):TB A T F y1 y2 y3 x4 n (nI w A T F y1 y2 y3 x4 n):=by
 unfold TB at h ⊢;simp[nI,World.setCell,Array.getElem?_modify,h]
theorem qR{b A:Nat}{s:ByteArray}{j:Nat}{w:World}(h:RS b s j w)(hn:b≠A)(T F:Value)(y1 y2 y3:Int)(x4:ByteArray)(n:Int):RS b s j (nI w A T F y1 y2 y3 x4 n):=(((((((h.other hn _ _).other hn _ _).other hn _ _).other hn _ _).other hn _ _).other hn _ _).other hn _ _).other hn _ _
theorem vg{b A:Nat}{w W:World}(h:w.grownBy W (some b))(hA:w.heap.size<=A)(T F:Value)(y1 y2 y3:Int)(x4:ByteArray)(n:Int):w.grownBy (nI W A T F y1 y2 y3 x4 n) (some b):=bi (bi (bi (bi (bi (bi (bi (bi h hA _ _) hA _ _) hA _ _) hA _ _) hA _ _) hA _ _) hA _ _) hA _ _
theorem vw{b A:Nat}{s:ByteArray}{j:Nat}{w:World}(h:RS b s j w)(hn:b≠A)(y1 y2 y3:Int)(x4:ByteArray)(n:Int):RS b s j (pO w A y1 y2 y3 x4 n):=(((((h.other hn _ _).other hn _ _).other hn _ _).other hn _ _).other hn _ _).other hn _ _
theorem vC{b A:Nat}{w W:World}(h:w.grownBy W (some b))(hA:w.heap.size<=A)(y1 y2 y3:Int)(x4:ByteArray)(n:Int):w.grownBy (pO W A y1 y2 y3 x4 n) (some b):=bi (bi (bi (bi (bi (bi h hA _ _) hA _ _) hA _ _) hA _ _) hA _ _) hA _ _
theorem vF{A V:Nat}{T F:Value}{a b c:Int}{P:ByteArray}{m:Int}{w:World}(h:TB A T F a b c P m w)(hn:A≠V)(y1 y2 y3:Int)(x4:ByteArray)(n:Int):TB A T F a b c P m (pO w V y1 y2 y3 x4 n):=(((((h.other hn _ _).other hn _ _).other hn _ _).other hn _ _).other hn _ _).other hn _ _
def QJ(b:Nat)(s:ByteArray)(sg:Int)(R:Int × Nat × Pa)(w:World)(e:Ending)(w':World):Prop :=
 ∃(T:ByteArray) (x1 x2 x3:Int) (P:ByteArray) (n:Int),e=.returned (.tuple #[.agg #[.string T,.func (.func (nH sg)) #[] #[],.int .i64 x1,.int .i64 x2,.int .i64 x3,.string P,.string ⟨#[]⟩,.int .i64 n],.int .i64 R.1])/\T.toList.isEmpty=decide (sg<0)/\RS b s R.2.1 w'/\w.grownBy w' (some b)/\(R.1=0->uT x1 x2 x3 P n=jT R.2.2)
def SR(B:Nat)(w:World):Prop:=w.heap[B]?=some (.cells QI 225 (0,0))
theorem SR.growb{B:Nat}{w w':World}{q:Nat}(h:SR B w)(hg:w.grownBy w' (some q))(hn:B≠q):SR B w':=by
 unfold SR at h ⊢;rw[hg.block B ((aA h)) (by simpa using hn)];exact h
theorem abJ(b:Nat)(s:ByteArray)(i k:Nat)(T:ByteArray)(hT:T.data.toList=zB k)(w:World)(hi:i<=s.size)(h:RS b s i w)(hs:s.size<2 ^ 62) :
  Calls prog 130 #[.pointer (some ⟨b,0,none⟩),.string T] w fun e w'=>e=.returned (.bool (bJ s.data.toList i k))/\RS b s (if bJ s.data.toList i k=true then i+T.size else i) w'/\w.grownBy w' (some b):=by
 have:=take_any b s T i w hi h hs (by
  have:T.size=(zB k).length:=by rw[<-hT];simp
  rw[this];unfold zB;split<;>simp)
 rw[hT]at this;exact this
theorem abK(b:Nat)(s:ByteArray)(i:Nat)(w:World)(hi:i<=s.size)(h:RS b s i w)(hs:s.size<=281474976710656) :
  Calls prog 152 #[.pointer (some ⟨b,0,none⟩)] w (QJ b s (ax s.data.toList i).1 (ay s.data.toList (ax s.data.toList i).2) w):=by
 have jO:Hd ((ax s.data.toList i).2<=s.size):=by have:=(Bz s.data.toList i (by simpa using hi)).2;simp at this;exact this
 have CT:=ae (fun(k:Nat) (T:ByteArray) (w:World) (hT:T.data.toList=zB k) (h:RS b s i w)=>abJ b s i k T hT w hi h (by omega));have CP:=ae (fun j w (hj:j<=s.size) (h:RS b s j w)=>Pq b s j w hj h hs);obtain⟨l,hl⟩:=zN (s.data.toList);rw[hl]at jO CT CP ⊢;obtain⟨sg,j,hsg⟩:∃sg j,ax l i=(sg,j):=⟨_,_,rfl⟩;rw[hsg]at jO ⊢;have kK:=ae (fun w (h:RS b s j w)=>CP.o j w jO.o h);simp only[];obtain⟨R,hR⟩:=zN (ay l j);rw[hR]at kK ⊢;have dW:=ae hsg;have HI:=ae h;have qK:Hd (b<w.heap.size):=by obtain⟨t,h⟩:=h;exact(aA h)
 have CS:=ae abz;clear hl hsg hR h hi hs CP jO;go_enter func152,ntmps152;go_wp2_with (go_at_call 173;refine(CS.o _).mono ?_);rintro e w1 ⟨rfl,hw1⟩;obtain⟨A,hA⟩:=zN (w.heap.size);have HG:Hd (w.grownBy w1 none):=by show w.grownBy w1 none;rw[hw1];exact au (au (au (ak w none) _) _) _
 have aS:Hd (TB A (.string ⟨#[]⟩) .nilFunc 0 0 0 ⟨#[]⟩ 0 w1):=by
  show TB A _ _ 0 0 0 _ 0 w1;unfold TB;rw[hw1,<-hA,Lib.alloc_old _ _ _ (by simp;omega),Lib.alloc_old _ _ _ (by simp)];exact heap_alloc_new w _
 have aH:Hd (TB (A+1) (.string ⟨#[]⟩) .nilFunc 0 0 0 ⟨#[]⟩ 0 w1):=by
  show TB (A+1) _ _ 0 0 0 _ 0 w1;unfold TB;rw[hw1,<-hA,Lib.alloc_old _ _ _ (by simp)];exact lL w _ _
 have bC:Hd (SR (A+2) w1):=by
  show SR (A+2) w1;unfold SR;rw[hw1,<-hA];exact MQ w _ _ _
 have HA:Hd (w.heap.size<=A/\b<A):=⟨Nat.le_of_eq hA,by rw[<-hA];exact qK.o⟩;replace HI:=ae (HI.o.grow HG.o);have hsz:((w.alloc (.cells #[.string ⟨#[]⟩,.nilFunc,.int .i64 0,.int .i64 0,.int .i64 0,.string ⟨#[]⟩,.string ⟨#[]⟩,.int .i64 0] 229)).alloc (.cells #[.string ⟨#[]⟩,.nilFunc,.int .i64 0,.int .i64 0,.int .i64 0,.string ⟨#[]⟩,.string ⟨#[]⟩,.int .i64 0] 229)).heap.size=A+2:=by simp[hA]
 rw[hsz]
 try rw[hA]
 clear hA hw1 hsz;have ai:Hd (b≠A/\b≠A+1/\A+2≠b/\A≠A+1):=by have:=HA.o;refine⟨?_,?_,?_,?_⟩<;>omega
 have dK:Hd (w.heap.size<=A/\w.heap.size<=A+1):=by have:=HA.o;exact⟨this.1,by omega⟩
 go_wp2;go_loopw [10] (fun vi wr=>∃k:Nat,vi=.int .i64 k/\k<8/\(∀m,m<k->bJ l i m=false)/\RS b s i wr/\TB A (.string ⟨#[]⟩) .nilFunc 0 0 0 ⟨#[]⟩ 0 wr/\TB (A+1) (.string ⟨#[]⟩) .nilFunc 0 0 0 ⟨#[]⟩ 0 wr/\SR (A+2) wr/\w.grownBy wr (some b)) (fun vi _=>8-(intOf vi).toNat)
 case atStart=>exact⟨0,rfl,by omega,fun m hm=>absurd hm (Nat.not_lt_zero _),HI.o,aS.o,aH.o,bC.o,bH HG.o _⟩
 case round =>
  obtain⟨k,rfl,hk,hno,hrs,hta,htb,Dw,hg⟩:=hrel;clear HI aS aH bC HG;have HI:=ae hrs;have aS:=ae hta;have aH:=ae htb;have bC:=ae Dw;have HG:=ae hg;have aU:=ae hno;clear hrs hta htb Dw hg hno;have hkk:k=0\/k=1\/k=2\/k=3\/k=4\/k=5\/k=6\/k=7:=by omega
  clear hk
  rcases hkk with rfl|rfl|rfl|rfl|rfl|rfl|rfl|rfl
  ·have s0:wr.cell? ⟨A+2,0,none⟩=some (.string ⟨#[62,61]⟩):=by rw[ag (show _=_ from bC.o)];rfl
   have s1:wr.cell? ⟨A+2,1,none⟩=some (.func (.func 189) #[] #[]):=by rw[ag (show _=_ from bC.o)];rfl
   obtain⟨D,hD⟩:=zN (wr.heap.size);obtain⟨W0,hW0⟩:=zN (wr.alloc (.cells #[.string ⟨#[]⟩,.nilFunc] 225));have HD0:Hd (W0.heap[D]?=some (.cells #[.string ⟨#[]⟩,.nilFunc] 225 (0,0))):=by show _=_;rw[<-hW0,<-hD];exact heap_alloc_new wr _
   have k0:W0.cell? ⟨D,0,none⟩=some (.string ⟨#[]⟩):=by rw[ag HD0.o];rfl
   have k1:W0.cell? ⟨D,1,none⟩=some .nilFunc:=by rw[ag HD0.o];rfl
   have kf:=Lib.frozen_of_heap HD0.o;have stf:∀(a:Addr) (m:Mode) (w:World),(store a (.func (.func 189) #[] #[]) m).run prog w=stored prog w a (.func (.func 189) #[] #[]) m:=fun a m w=>run_store prog w a _ m rfl
   go_wp2_with (fail);obtain⟨W,hW⟩:=zN ((W0.setCell ⟨D,0,none⟩ (.string ⟨#[62,61]⟩)).setCell ⟨D,1,none⟩ (.func (.func 189) #[] #[]));have hgW:wr.grownBy W none:=by rw[<-hW];exact eQ (eQ (by rw[<-hW0];exact au (ak wr none) _) (Nat.le_of_eq hD) _ _) (Nat.le_of_eq hD) _ _
   have HDR:Hd (W.heap[D]?=some (.cells #[.string ⟨#[62,61]⟩,.func (.func 189) #[] #[]] 225 (0,0))):=by show _=_;have h0:=HD0.o;rw[<-hW];simp[World.setCell,Array.getElem?_modify,h0]
   have dP:Hd (D≠b/\A+1<D):=by
    have h1:=(aA aH.o);have h2:=HA.o;rw[hD]at h1;exact⟨by omega,h1⟩
   replace HI:=ae (HI.o.grow hgW);replace aS:=ae (aS.o.grow hgW);replace aH:=ae (aH.o.grow hgW);replace bC:=ae (bC.o.growb (bH hgW (some b)) ai.o.2.2.1);replace HG:=ae (ah HG.o (bH hgW _));have d0:W.cell? ⟨D,0,none⟩=some (.string ⟨#[62,61]⟩):=by rw[ag HDR.o];rfl
   try rw[hW]
   try rw[hD]
   clear hgW hW hD s0 s1 hW0 HD0 k0 k1 kf;have bZ:Hd (∀w,RS b s i w->Calls prog 130 #[.pointer (some ⟨b,0,none⟩),.string ⟨#[62,61]⟩] w fun e w'=>e=.returned (.bool (bJ l i 0))/\RS b s (if bJ l i 0=true then i+2 else i) w'/\w.grownBy w' (some b)):=fun w h=>CT.o 0 ⟨#[62,61]⟩ w rfl h
   cases hp:bJ l i 0 with
   | true =>
    rw[hp]at bZ;have gq:Hd (∀w,RS b s i w->Calls prog 130 #[.pointer (some ⟨b,0,none⟩),.string ⟨#[62,61]⟩] w fun e w'=>e=.returned (.bool true)/\RS b s (i+2) w'/\w.grownBy w' (some b)):=bZ.o;have HP:=ae hp;clear hp bZ
    go_region_held3 (fun w'=>w'.cell? ⟨D,0,none⟩=some (.string ⟨#[62,61]⟩)) ((first|(simp only[fK];assumption)|(refine World.grownBy.cell (by assumption) (by assumption) ?_;simpa using dP.o.1))) (first|(go_at_call 130;refine(gq.o _ (by first|exact HI.o|exact HI.o.drew 1)).mono ?_;rintro e u1 ⟨rfl,hr,hg⟩))
    have hg':=cZ hg;have HD1:Hd (u1.heap[D]?=some (.cells #[.string ⟨#[62,61]⟩,.func (.func 189) #[] #[]] 225 (0,0))):=by show _=_;rw[hg'.block D ((aA HDR.o)) (by simpa using dP.o.1)];exact HDR.o
    replace HI:=ae hr;replace aS:=ae (aS.o.growb hg' (Ne.symm ai.o.1));replace aH:=ae (aH.o.growb hg' (Ne.symm ai.o.2.1));replace bC:=ae (bC.o.growb hg' ai.o.2.2.1);replace HG:=ae (ah HG.o hg');clear hg hg' hr HDR d0 stf;have dU:=ae (abA l i  HP.o);obtain⟨hsg,hj⟩:sg=1/\j=i+2:=by have:=dW.o.symm.trans dU.o;simpa using this
    rw[hj]at kK;have HF:Hd (nH sg=189/\(⟨#[62,61]⟩:ByteArray).toList.isEmpty=decide (sg<0)):=by rw[hsg];exact⟨rfl,(lM (by decide)).trans (by decide)⟩
    clear hsg hj aU dW dU CT CS;have stf:∀(a:Addr) (m:Mode) (w:World),(store a (.func (.func 189) #[] #[]) m).run prog w=stored prog w a (.func (.func 189) #[] #[]) m:=fun a m w=>run_store prog w a _ m rfl
    have d0:u1.cell? ⟨D,0,none⟩=some (.string ⟨#[62,61]⟩):=by rw[ag HD1.o];rfl
    have d1:u1.cell? ⟨D,1,none⟩=some (.func (.func 189) #[] #[]):=by rw[ag HD1.o];rfl
    obtain⟨b0,b1,b2,b3,b4,b5,b6,b7⟩:=aH.o.cells;have bf:=aH.o.f;go_wp2_with (first|(go_at_call 174;refine(kK.o _ ((HI.o.other ai.o.2.1 _ _).other ai.o.2.1 _ _)).mono ?_));rintro e u2 ⟨x1,x2,x3,P,n,rfl,hr,hg,hok⟩;have HR2:=ae hr;replace aH:=ae ((aH.o.set01 _ _).growb hg (Ne.symm ai.o.2.1));replace aS:=ae (((aS.o.other ai.o.2.2.2 _ _).other ai.o.2.2.2 _ _).growb hg (Ne.symm ai.o.1));replace HG:=ae (ah (bi (bi HG.o dK.o.2 _ _) dK.o.2 _ _) hg);have dH:=ae hok;clear hr hg hok b0 b1 b2 b3 b4 b5 b6 b7 bf d0 d1;obtain⟨b0,b1,b2,b3,b4,b5,b6,b7⟩:=aH.o.cells;have bf:=aH.o.f;obtain⟨a0,a1,a2,a3,a4,a5,a6,a7⟩:=aS.o.cells;have af:=aS.o.f;obtain⟨E,hE⟩:=zN (R.1);have HE:=ae hE;rw[hE];clear hE;go_wp2;have hrow:TB A (.string ⟨#[62,61]⟩) (.func (.func 189) #[] #[]) x1 x2 x3 P n (nI (pO u2 (A+1) x1 x2 x3 P n) A (.string ⟨#[62,61]⟩) (.func (.func 189) #[] #[]) x1 x2 x3 P n):=tC (vF aS.o ai.o.2.2.2 _ _ _ _ _) _ _ _ _ _
    refine bodyPost_ret (je (p:=2) (u:=3) rfl _ _ A _ _ (0,0) _ rfl hrow underlying229 rfl (by kernel_rfl)) rfl ?_;refine⟨⟨#[62,61]⟩,x1,x2,x3,P,n,?_,HF.o.2,qR (vw HR2.o ai.o.2.1 _ _ _ _ _) ai.o.1 _ _ _ _ _ _ _,vg (vC HG.o dK.o.2 _ _ _ _ _) dK.o.1 _ _ _ _ _ _ _,dH.o⟩;rw[HF.o.1,HE.o];rfl
   | false =>
    rw[hp]at bZ;have gq:Hd (∀w,RS b s i w->Calls prog 130 #[.pointer (some ⟨b,0,none⟩),.string ⟨#[62,61]⟩] w fun e w'=>e=.returned (.bool false)/\RS b s (i) w'/\w.grownBy w' (some b)):=bZ.o;have HP:=ae hp;clear hp bZ
    go_region_held3 (fun w'=>w'.cell? ⟨D,0,none⟩=some (.string ⟨#[62,61]⟩)) ((first|(simp only[fK];assumption)|(refine World.grownBy.cell (by assumption) (by assumption) ?_;simpa using dP.o.1))) (first|(go_at_call 130;refine(gq.o _ (by first|exact HI.o|exact HI.o.drew 1)).mono ?_;rintro e u1 ⟨rfl,hr,hg⟩))
    have hg':=cZ hg;have HD1:Hd (u1.heap[D]?=some (.cells #[.string ⟨#[62,61]⟩,.func (.func 189) #[] #[]] 225 (0,0))):=by show _=_;rw[hg'.block D ((aA HDR.o)) (by simpa using dP.o.1)];exact HDR.o
    replace HI:=ae hr;replace aS:=ae (aS.o.growb hg' (Ne.symm ai.o.1));replace aH:=ae (aH.o.growb hg' (Ne.symm ai.o.2.1));replace bC:=ae (bC.o.growb hg' ai.o.2.2.1);replace HG:=ae (ah HG.o hg');clear hg hg' hr HDR d0 stf;go_wp2;go_roundw
    case rel=>exact⟨1,rfl,by omega,fun m hm=>by rcases Nat.lt_succ_iff_lt_or_eq.1 hm with h|h;exact aU.o m h;rw[h];exact HP.o,HI.o,aS.o,aH.o,bC.o,HG.o⟩
    case measure=>simp[intOf]
  ·have s0:wr.cell? ⟨A+2,2,none⟩=some (.string ⟨#[60,61]⟩):=by rw[ag (show _=_ from bC.o)];rfl
   have s1:wr.cell? ⟨A+2,3,none⟩=some (.func (.func 190) #[] #[]):=by rw[ag (show _=_ from bC.o)];rfl
   obtain⟨D,hD⟩:=zN (wr.heap.size);obtain⟨W0,hW0⟩:=zN (wr.alloc (.cells #[.string ⟨#[]⟩,.nilFunc] 225));have HD0:Hd (W0.heap[D]?=some (.cells #[.string ⟨#[]⟩,.nilFunc] 225 (0,0))):=by show _=_;rw[<-hW0,<-hD];exact heap_alloc_new wr _
   have k0:W0.cell? ⟨D,0,none⟩=some (.string ⟨#[]⟩):=by rw[ag HD0.o];rfl
   have k1:W0.cell? ⟨D,1,none⟩=some .nilFunc:=by rw[ag HD0.o];rfl
   have kf:=Lib.frozen_of_heap HD0.o;have stf:∀(a:Addr) (m:Mode) (w:World),(store a (.func (.func 190) #[] #[]) m).run prog w=stored prog w a (.func (.func 190) #[] #[]) m:=fun a m w=>run_store prog w a _ m rfl
   go_wp2_with (fail);obtain⟨W,hW⟩:=zN ((W0.setCell ⟨D,0,none⟩ (.string ⟨#[60,61]⟩)).setCell ⟨D,1,none⟩ (.func (.func 190) #[] #[]));have hgW:wr.grownBy W none:=by rw[<-hW];exact eQ (eQ (by rw[<-hW0];exact au (ak wr none) _) (Nat.le_of_eq hD) _ _) (Nat.le_of_eq hD) _ _
   have HDR:Hd (W.heap[D]?=some (.cells #[.string ⟨#[60,61]⟩,.func (.func 190) #[] #[]] 225 (0,0))):=by show _=_;have h0:=HD0.o;rw[<-hW];simp[World.setCell,Array.getElem?_modify,h0]
   have dP:Hd (D≠b/\A+1<D):=by
    have h1:=(aA aH.o);have h2:=HA.o;rw[hD]at h1;exact⟨by omega,h1⟩
   replace HI:=ae (HI.o.grow hgW);replace aS:=ae (aS.o.grow hgW);replace aH:=ae (aH.o.grow hgW);replace bC:=ae (bC.o.growb (bH hgW (some b)) ai.o.2.2.1);replace HG:=ae (ah HG.o (bH hgW _));have d0:W.cell? ⟨D,0,none⟩=some (.string ⟨#[60,61]⟩):=by rw[ag HDR.o];rfl
   try rw[hW]
   try rw[hD]
   clear hgW hW hD s0 s1 hW0 HD0 k0 k1 kf;have bZ:Hd (∀w,RS b s i w->Calls prog 130 #[.pointer (some ⟨b,0,none⟩),.string ⟨#[60,61]⟩] w fun e w'=>e=.returned (.bool (bJ l i 1))/\RS b s (if bJ l i 1=true then i+2 else i) w'/\w.grownBy w' (some b)):=fun w h=>CT.o 1 ⟨#[60,61]⟩ w rfl h
   cases hp:bJ l i 1 with
   | true =>
    rw[hp]at bZ;have gq:Hd (∀w,RS b s i w->Calls prog 130 #[.pointer (some ⟨b,0,none⟩),.string ⟨#[60,61]⟩] w fun e w'=>e=.returned (.bool true)/\RS b s (i+2) w'/\w.grownBy w' (some b)):=bZ.o;have HP:=ae hp;clear hp bZ
    go_region_held3 (fun w'=>w'.cell? ⟨D,0,none⟩=some (.string ⟨#[60,61]⟩)) ((first|(simp only[fK];assumption)|(refine World.grownBy.cell (by assumption) (by assumption) ?_;simpa using dP.o.1))) (first|(go_at_call 130;refine(gq.o _ (by first|exact HI.o|exact HI.o.drew 1)).mono ?_;rintro e u1 ⟨rfl,hr,hg⟩))
    have hg':=cZ hg;have HD1:Hd (u1.heap[D]?=some (.cells #[.string ⟨#[60,61]⟩,.func (.func 190) #[] #[]] 225 (0,0))):=by show _=_;rw[hg'.block D ((aA HDR.o)) (by simpa using dP.o.1)];exact HDR.o
    replace HI:=ae hr;replace aS:=ae (aS.o.growb hg' (Ne.symm ai.o.1));replace aH:=ae (aH.o.growb hg' (Ne.symm ai.o.2.1));replace bC:=ae (bC.o.growb hg' ai.o.2.2.1);replace HG:=ae (ah HG.o hg');clear hg hg' hr HDR d0 stf;have dU:=ae (abB l i (aU.o 0 (by omega)) HP.o);obtain⟨hsg,hj⟩:sg=2/\j=i+2:=by have:=dW.o.symm.trans dU.o;simpa using this
    rw[hj]at kK;have HF:Hd (nH sg=190/\(⟨#[60,61]⟩:ByteArray).toList.isEmpty=decide (sg<0)):=by rw[hsg];exact⟨rfl,(lM (by decide)).trans (by decide)⟩
    clear hsg hj aU dW dU CT CS;have stf:∀(a:Addr) (m:Mode) (w:World),(store a (.func (.func 190) #[] #[]) m).run prog w=stored prog w a (.func (.func 190) #[] #[]) m:=fun a m w=>run_store prog w a _ m rfl
    have d0:u1.cell? ⟨D,0,none⟩=some (.string ⟨#[60,61]⟩):=by rw[ag HD1.o];rfl
    have d1:u1.cell? ⟨D,1,none⟩=some (.func (.func 190) #[] #[]):=by rw[ag HD1.o];rfl
    obtain⟨b0,b1,b2,b3,b4,b5,b6,b7⟩:=aH.o.cells;have bf:=aH.o.f;go_wp2_with (first|(go_at_call 174;refine(kK.o _ ((HI.o.other ai.o.2.1 _ _).other ai.o.2.1 _ _)).mono ?_));rintro e u2 ⟨x1,x2,x3,P,n,rfl,hr,hg,hok⟩;have HR2:=ae hr;replace aH:=ae ((aH.o.set01 _ _).growb hg (Ne.symm ai.o.2.1));replace aS:=ae (((aS.o.other ai.o.2.2.2 _ _).other ai.o.2.2.2 _ _).growb hg (Ne.symm ai.o.1));replace HG:=ae (ah (bi (bi HG.o dK.o.2 _ _) dK.o.2 _ _) hg);have dH:=ae hok;clear hr hg hok b0 b1 b2 b3 b4 b5 b6 b7 bf d0 d1;obtain⟨b0,b1,b2,b3,b4,b5,b6,b7⟩:=aH.o.cells;have bf:=aH.o.f;obtain⟨a0,a1,a2,a3,a4,a5,a6,a7⟩:=aS.o.cells;have af:=aS.o.f;obtain⟨E,hE⟩:=zN (R.1);have HE:=ae hE;rw[hE];clear hE;go_wp2;have hrow:TB A (.string ⟨#[60,61]⟩) (.func (.func 190) #[] #[]) x1 x2 x3 P n (nI (pO u2 (A+1) x1 x2 x3 P n) A (.string ⟨#[60,61]⟩) (.func (.func 190) #[] #[]) x1 x2 x3 P n):=tC (vF aS.o ai.o.2.2.2 _ _ _ _ _) _ _ _ _ _
    refine bodyPost_ret (je (p:=2) (u:=3) rfl _ _ A _ _ (0,0) _ rfl hrow underlying229 rfl (by kernel_rfl)) rfl ?_;refine⟨⟨#[60,61]⟩,x1,x2,x3,P,n,?_,HF.o.2,qR (vw HR2.o ai.o.2.1 _ _ _ _ _) ai.o.1 _ _ _ _ _ _ _,vg (vC HG.o dK.o.2 _ _ _ _ _) dK.o.1 _ _ _ _ _ _ _,dH.o⟩;rw[HF.o.1,HE.o];rfl
   | false =>
    rw[hp]at bZ;have gq:Hd (∀w,RS b s i w->Calls prog 130 #[.pointer (some ⟨b,0,none⟩),.string ⟨#[60,61]⟩] w fun e w'=>e=.returned (.bool false)/\RS b s (i) w'/\w.grownBy w' (some b)):=bZ.o;have HP:=ae hp;clear hp bZ
    go_region_held3 (fun w'=>w'.cell? ⟨D,0,none⟩=some (.string ⟨#[60,61]⟩)) ((first|(simp only[fK];assumption)|(refine World.grownBy.cell (by assumption) (by assumption) ?_;simpa using dP.o.1))) (first|(go_at_call 130;refine(gq.o _ (by first|exact HI.o|exact HI.o.drew 1)).mono ?_;rintro e u1 ⟨rfl,hr,hg⟩))
    have hg':=cZ hg;have HD1:Hd (u1.heap[D]?=some (.cells #[.string ⟨#[60,61]⟩,.func (.func 190) #[] #[]] 225 (0,0))):=by show _=_;rw[hg'.block D ((aA HDR.o)) (by simpa using dP.o.1)];exact HDR.o
    replace HI:=ae hr;replace aS:=ae (aS.o.growb hg' (Ne.symm ai.o.1));replace aH:=ae (aH.o.growb hg' (Ne.symm ai.o.2.1));replace bC:=ae (bC.o.growb hg' ai.o.2.2.1);replace HG:=ae (ah HG.o hg');clear hg hg' hr HDR d0 stf;go_wp2;go_roundw
    case rel=>exact⟨2,rfl,by omega,fun m hm=>by rcases Nat.lt_succ_iff_lt_or_eq.1 hm with h|h;exact aU.o m h;rw[h];exact HP.o,HI.o,aS.o,aH.o,bC.o,HG.o⟩
    case measure=>simp[intOf]
  ·have s0:wr.cell? ⟨A+2,4,none⟩=some (.string ⟨#[62]⟩):=by rw[ag (show _=_ from bC.o)];rfl
   have s1:wr.cell? ⟨A+2,5,none⟩=some (.func (.func 191) #[] #[]):=by rw[ag (show _=_ from bC.o)];rfl
   obtain⟨D,hD⟩:=zN (wr.heap.size);obtain⟨W0,hW0⟩:=zN (wr.alloc (.cells #[.string ⟨#[]⟩,.nilFunc] 225));have HD0:Hd (W0.heap[D]?=some (.cells #[.string ⟨#[]⟩,.nilFunc] 225 (0,0))):=by show _=_;rw[<-hW0,<-hD];exact heap_alloc_new wr _
   have k0:W0.cell? ⟨D,0,none⟩=some (.string ⟨#[]⟩):=by rw[ag HD0.o];rfl
   have k1:W0.cell? ⟨D,1,none⟩=some .nilFunc:=by rw[ag HD0.o];rfl
   have kf:=Lib.frozen_of_heap HD0.o;have stf:∀(a:Addr) (m:Mode) (w:World),(store a (.func (.func 191) #[] #[]) m).run prog w=stored prog w a (.func (.func 191) #[] #[]) m:=fun a m w=>run_store prog w a _ m rfl
   go_wp2_with (fail);obtain⟨W,hW⟩:=zN ((W0.setCell ⟨D,0,none⟩ (.string ⟨#[62]⟩)).setCell ⟨D,1,none⟩ (.func (.func 191) #[] #[]));have hgW:wr.grownBy W none:=by rw[<-hW];exact eQ (eQ (by rw[<-hW0];exact au (ak wr none) _) (Nat.le_of_eq hD) _ _) (Nat.le_of_eq hD) _ _
   have HDR:Hd (W.heap[D]?=some (.cells #[.string ⟨#[62]⟩,.func (.func 191) #[] #[]] 225 (0,0))):=by show _=_;have h0:=HD0.o;rw[<-hW];simp[World.setCell,Array.getElem?_modify,h0]
   have dP:Hd (D≠b/\A+1<D):=by
    have h1:=(aA aH.o);have h2:=HA.o;rw[hD]at h1;exact⟨by omega,h1⟩
   replace HI:=ae (HI.o.grow hgW);replace aS:=ae (aS.o.grow hgW);replace aH:=ae (aH.o.grow hgW);replace bC:=ae (bC.o.growb (bH hgW (some b)) ai.o.2.2.1);replace HG:=ae (ah HG.o (bH hgW _));have d0:W.cell? ⟨D,0,none⟩=some (.string ⟨#[62]⟩):=by rw[ag HDR.o];rfl
   try rw[hW]
   try rw[hD]
   clear hgW hW hD s0 s1 hW0 HD0 k0 k1 kf;have bZ:Hd (∀w,RS b s i w->Calls prog 130 #[.pointer (some ⟨b,0,none⟩),.string ⟨#[62]⟩] w fun e w'=>e=.returned (.bool (bJ l i 2))/\RS b s (if bJ l i 2=true then i+1 else i) w'/\w.grownBy w' (some b)):=fun w h=>CT.o 2 ⟨#[62]⟩ w rfl h
   cases hp:bJ l i 2 with
   | true =>
    rw[hp]at bZ;have gq:Hd (∀w,RS b s i w->Calls prog 130 #[.pointer (some ⟨b,0,none⟩),.string ⟨#[62]⟩] w fun e w'=>e=.returned (.bool true)/\RS b s (i+1) w'/\w.grownBy w' (some b)):=bZ.o;have HP:=ae hp;clear hp bZ
    go_region_held3 (fun w'=>w'.cell? ⟨D,0,none⟩=some (.string ⟨#[62]⟩)) ((first|(simp only[fK];assumption)|(refine World.grownBy.cell (by assumption) (by assumption) ?_;simpa using dP.o.1))) (first|(go_at_call 130;refine(gq.o _ (by first|exact HI.o|exact HI.o.drew 1)).mono ?_;rintro e u1 ⟨rfl,hr,hg⟩))
    have hg':=cZ hg;have HD1:Hd (u1.heap[D]?=some (.cells #[.string ⟨#[62]⟩,.func (.func 191) #[] #[]] 225 (0,0))):=by show _=_;rw[hg'.block D ((aA HDR.o)) (by simpa using dP.o.1)];exact HDR.o
    replace HI:=ae hr;replace aS:=ae (aS.o.growb hg' (Ne.symm ai.o.1));replace aH:=ae (aH.o.growb hg' (Ne.symm ai.o.2.1));replace bC:=ae (bC.o.growb hg' ai.o.2.2.1);replace HG:=ae (ah HG.o hg');clear hg hg' hr HDR d0 stf;have dU:=ae (abC l i (aU.o 0 (by omega)) (aU.o 1 (by omega)) HP.o);obtain⟨hsg,hj⟩:sg=3/\j=i+1:=by have:=dW.o.symm.trans dU.o;simpa using this
    rw[hj]at kK;have HF:Hd (nH sg=191/\(⟨#[62]⟩:ByteArray).toList.isEmpty=decide (sg<0)):=by rw[hsg];exact⟨rfl,(lM (by decide)).trans (by decide)⟩
    clear hsg hj aU dW dU CT CS;have stf:∀(a:Addr) (m:Mode) (w:World),(store a (.func (.func 191) #[] #[]) m).run prog w=stored prog w a (.func (.func 191) #[] #[]) m:=fun a m w=>run_store prog w a _ m rfl
    have d0:u1.cell? ⟨D,0,none⟩=some (.string ⟨#[62]⟩):=by rw[ag HD1.o];rfl
    have d1:u1.cell? ⟨D,1,none⟩=some (.func (.func 191) #[] #[]):=by rw[ag HD1.o];rfl
    obtain⟨b0,b1,b2,b3,b4,b5,b6,b7⟩:=aH.o.cells;have bf:=aH.o.f;go_wp2_with (first|(go_at_call 174;refine(kK.o _ ((HI.o.other ai.o.2.1 _ _).other ai.o.2.1 _ _)).mono ?_));rintro e u2 ⟨x1,x2,x3,P,n,rfl,hr,hg,hok⟩;have HR2:=ae hr;replace aH:=ae ((aH.o.set01 _ _).growb hg (Ne.symm ai.o.2.1));replace aS:=ae (((aS.o.other ai.o.2.2.2 _ _).other ai.o.2.2.2 _ _).growb hg (Ne.symm ai.o.1));replace HG:=ae (ah (bi (bi HG.o dK.o.2 _ _) dK.o.2 _ _) hg);have dH:=ae hok;clear hr hg hok b0 b1 b2 b3 b4 b5 b6 b7 bf d0 d1;obtain⟨b0,b1,b2,b3,b4,b5,b6,b7⟩:=aH.o.cells;have bf:=aH.o.f;obtain⟨a0,a1,a2,a3,a4,a5,a6,a7⟩:=aS.o.cells;have af:=aS.o.f;obtain⟨E,hE⟩:=zN (R.1);have HE:=ae hE;rw[hE];clear hE;go_wp2;have hrow:TB A (.string ⟨#[62]⟩) (.func (.func 191) #[] #[]) x1 x2 x3 P n (nI (pO u2 (A+1) x1 x2 x3 P n) A (.string ⟨#[62]⟩) (.func (.func 191) #[] #[]) x1 x2 x3 P n):=tC (vF aS.o ai.o.2.2.2 _ _ _ _ _) _ _ _ _ _
    refine bodyPost_ret (je (p:=2) (u:=3) rfl _ _ A _ _ (0,0) _ rfl hrow underlying229 rfl (by kernel_rfl)) rfl ?_;refine⟨⟨#[62]⟩,x1,x2,x3,P,n,?_,HF.o.2,qR (vw HR2.o ai.o.2.1 _ _ _ _ _) ai.o.1 _ _ _ _ _ _ _,vg (vC HG.o dK.o.2 _ _ _ _ _) dK.o.1 _ _ _ _ _ _ _,dH.o⟩;rw[HF.o.1,HE.o];rfl
   | false =>
    rw[hp]at bZ;have gq:Hd (∀w,RS b s i w->Calls prog 130 #[.pointer (some ⟨b,0,none⟩),.string ⟨#[62]⟩] w fun e w'=>e=.returned (.bool false)/\RS b s (i) w'/\w.grownBy w' (some b)):=bZ.o;have HP:=ae hp;clear hp bZ
    go_region_held3 (fun w'=>w'.cell? ⟨D,0,none⟩=some (.string ⟨#[62]⟩)) ((first|(simp only[fK];assumption)|(refine World.grownBy.cell (by assumption) (by assumption) ?_;simpa using dP.o.1))) (first|(go_at_call 130;refine(gq.o _ (by first|exact HI.o|exact HI.o.drew 1)).mono ?_;rintro e u1 ⟨rfl,hr,hg⟩))
    have hg':=cZ hg;have HD1:Hd (u1.heap[D]?=some (.cells #[.string ⟨#[62]⟩,.func (.func 191) #[] #[]] 225 (0,0))):=by show _=_;rw[hg'.block D ((aA HDR.o)) (by simpa using dP.o.1)];exact HDR.o
    replace HI:=ae hr;replace aS:=ae (aS.o.growb hg' (Ne.symm ai.o.1));replace aH:=ae (aH.o.growb hg' (Ne.symm ai.o.2.1));replace bC:=ae (bC.o.growb hg' ai.o.2.2.1);replace HG:=ae (ah HG.o hg');clear hg hg' hr HDR d0 stf;go_wp2;go_roundw
    case rel=>exact⟨3,rfl,by omega,fun m hm=>by rcases Nat.lt_succ_iff_lt_or_eq.1 hm with h|h;exact aU.o m h;rw[h];exact HP.o,HI.o,aS.o,aH.o,bC.o,HG.o⟩
    case measure=>simp[intOf]
  ·have s0:wr.cell? ⟨A+2,6,none⟩=some (.string ⟨#[60]⟩):=by rw[ag (show _=_ from bC.o)];rfl
   have s1:wr.cell? ⟨A+2,7,none⟩=some (.func (.func 192) #[] #[]):=by rw[ag (show _=_ from bC.o)];rfl
   obtain⟨D,hD⟩:=zN (wr.heap.size);obtain⟨W0,hW0⟩:=zN (wr.alloc (.cells #[.string ⟨#[]⟩,.nilFunc] 225));have HD0:Hd (W0.heap[D]?=some (.cells #[.string ⟨#[]⟩,.nilFunc] 225 (0,0))):=by show _=_;rw[<-hW0,<-hD];exact heap_alloc_new wr _
   have k0:W0.cell? ⟨D,0,none⟩=some (.string ⟨#[]⟩):=by rw[ag HD0.o];rfl
   have k1:W0.cell? ⟨D,1,none⟩=some .nilFunc:=by rw[ag HD0.o];rfl
   have kf:=Lib.frozen_of_heap HD0.o;have stf:∀(a:Addr) (m:Mode) (w:World),(store a (.func (.func 192) #[] #[]) m).run prog w=stored prog w a (.func (.func 192) #[] #[]) m:=fun a m w=>run_store prog w a _ m rfl
   go_wp2_with (fail);obtain⟨W,hW⟩:=zN ((W0.setCell ⟨D,0,none⟩ (.string ⟨#[60]⟩)).setCell ⟨D,1,none⟩ (.func (.func 192) #[] #[]));have hgW:wr.grownBy W none:=by rw[<-hW];exact eQ (eQ (by rw[<-hW0];exact au (ak wr none) _) (Nat.le_of_eq hD) _ _) (Nat.le_of_eq hD) _ _
   have HDR:Hd (W.heap[D]?=some (.cells #[.string ⟨#[60]⟩,.func (.func 192) #[] #[]] 225 (0,0))):=by show _=_;have h0:=HD0.o;rw[<-hW];simp[World.setCell,Array.getElem?_modify,h0]
   have dP:Hd (D≠b/\A+1<D):=by
    have h1:=(aA aH.o);have h2:=HA.o;rw[hD]at h1;exact⟨by omega,h1⟩
   replace HI:=ae (HI.o.grow hgW);replace aS:=ae (aS.o.grow hgW);replace aH:=ae (aH.o.grow hgW);replace bC:=ae (bC.o.growb (bH hgW (some b)) ai.o.2.2.1);replace HG:=ae (ah HG.o (bH hgW _));have d0:W.cell? ⟨D,0,none⟩=some (.string ⟨#[60]⟩):=by rw[ag HDR.o];rfl
   try rw[hW]
   try rw[hD]
   clear hgW hW hD s0 s1 hW0 HD0 k0 k1 kf;have bZ:Hd (∀w,RS b s i w->Calls prog 130 #[.pointer (some ⟨b,0,none⟩),.string ⟨#[60]⟩] w fun e w'=>e=.returned (.bool (bJ l i 3))/\RS b s (if bJ l i 3=true then i+1 else i) w'/\w.grownBy w' (some b)):=fun w h=>CT.o 3 ⟨#[60]⟩ w rfl h
   cases hp:bJ l i 3 with
   | true =>
    rw[hp]at bZ;have gq:Hd (∀w,RS b s i w->Calls prog 130 #[.pointer (some ⟨b,0,none⟩),.string ⟨#[60]⟩] w fun e w'=>e=.returned (.bool true)/\RS b s (i+1) w'/\w.grownBy w' (some b)):=bZ.o;have HP:=ae hp;clear hp bZ
    go_region_held3 (fun w'=>w'.cell? ⟨D,0,none⟩=some (.string ⟨#[60]⟩)) ((first|(simp only[fK];assumption)|(refine World.grownBy.cell (by assumption) (by assumption) ?_;simpa using dP.o.1))) (first|(go_at_call 130;refine(gq.o _ (by first|exact HI.o|exact HI.o.drew 1)).mono ?_;rintro e u1 ⟨rfl,hr,hg⟩))
    have hg':=cZ hg;have HD1:Hd (u1.heap[D]?=some (.cells #[.string ⟨#[60]⟩,.func (.func 192) #[] #[]] 225 (0,0))):=by show _=_;rw[hg'.block D ((aA HDR.o)) (by simpa using dP.o.1)];exact HDR.o
    replace HI:=ae hr;replace aS:=ae (aS.o.growb hg' (Ne.symm ai.o.1));replace aH:=ae (aH.o.growb hg' (Ne.symm ai.o.2.1));replace bC:=ae (bC.o.growb hg' ai.o.2.2.1);replace HG:=ae (ah HG.o hg');clear hg hg' hr HDR d0 stf;have dU:=ae (abD l i (aU.o 0 (by omega)) (aU.o 1 (by omega)) (aU.o 2 (by omega)) HP.o);obtain⟨hsg,hj⟩:sg=4/\j=i+1:=by have:=dW.o.symm.trans dU.o;simpa using this
    rw[hj]at kK;have HF:Hd (nH sg=192/\(⟨#[60]⟩:ByteArray).toList.isEmpty=decide (sg<0)):=by rw[hsg];exact⟨rfl,(lM (by decide)).trans (by decide)⟩
    clear hsg hj aU dW dU CT CS;have stf:∀(a:Addr) (m:Mode) (w:World),(store a (.func (.func 192) #[] #[]) m).run prog w=stored prog w a (.func (.func 192) #[] #[]) m:=fun a m w=>run_store prog w a _ m rfl
    have d0:u1.cell? ⟨D,0,none⟩=some (.string ⟨#[60]⟩):=by rw[ag HD1.o];rfl
    have d1:u1.cell? ⟨D,1,none⟩=some (.func (.func 192) #[] #[]):=by rw[ag HD1.o];rfl
    obtain⟨b0,b1,b2,b3,b4,b5,b6,b7⟩:=aH.o.cells;have bf:=aH.o.f;go_wp2_with (first|(go_at_call 174;refine(kK.o _ ((HI.o.other ai.o.2.1 _ _).other ai.o.2.1 _ _)).mono ?_));rintro e u2 ⟨x1,x2,x3,P,n,rfl,hr,hg,hok⟩;have HR2:=ae hr;replace aH:=ae ((aH.o.set01 _ _).growb hg (Ne.symm ai.o.2.1));replace aS:=ae (((aS.o.other ai.o.2.2.2 _ _).other ai.o.2.2.2 _ _).growb hg (Ne.symm ai.o.1));replace HG:=ae (ah (bi (bi HG.o dK.o.2 _ _) dK.o.2 _ _) hg);have dH:=ae hok;clear hr hg hok b0 b1 b2 b3 b4 b5 b6 b7 bf d0 d1;obtain⟨b0,b1,b2,b3,b4,b5,b6,b7⟩:=aH.o.cells;have bf:=aH.o.f;obtain⟨a0,a1,a2,a3,a4,a5,a6,a7⟩:=aS.o.cells;have af:=aS.o.f;obtain⟨E,hE⟩:=zN (R.1);have HE:=ae hE;rw[hE];clear hE;go_wp2;have hrow:TB A (.string ⟨#[60]⟩) (.func (.func 192) #[] #[]) x1 x2 x3 P n (nI (pO u2 (A+1) x1 x2 x3 P n) A (.string ⟨#[60]⟩) (.func (.func 192) #[] #[]) x1 x2 x3 P n):=tC (vF aS.o ai.o.2.2.2 _ _ _ _ _) _ _ _ _ _
    refine bodyPost_ret (je (p:=2) (u:=3) rfl _ _ A _ _ (0,0) _ rfl hrow underlying229 rfl (by kernel_rfl)) rfl ?_;refine⟨⟨#[60]⟩,x1,x2,x3,P,n,?_,HF.o.2,qR (vw HR2.o ai.o.2.1 _ _ _ _ _) ai.o.1 _ _ _ _ _ _ _,vg (vC HG.o dK.o.2 _ _ _ _ _) dK.o.1 _ _ _ _ _ _ _,dH.o⟩;rw[HF.o.1,HE.o];rfl
   | false =>
    rw[hp]at bZ;have gq:Hd (∀w,RS b s i w->Calls prog 130 #[.pointer (some ⟨b,0,none⟩),.string ⟨#[60]⟩] w fun e w'=>e=.returned (.bool false)/\RS b s (i) w'/\w.grownBy w' (some b)):=bZ.o;have HP:=ae hp;clear hp bZ
    go_region_held3 (fun w'=>w'.cell? ⟨D,0,none⟩=some (.string ⟨#[60]⟩)) ((first|(simp only[fK];assumption)|(refine World.grownBy.cell (by assumption) (by assumption) ?_;simpa using dP.o.1))) (first|(go_at_call 130;refine(gq.o _ (by first|exact HI.o|exact HI.o.drew 1)).mono ?_;rintro e u1 ⟨rfl,hr,hg⟩))
    have hg':=cZ hg;have HD1:Hd (u1.heap[D]?=some (.cells #[.string ⟨#[60]⟩,.func (.func 192) #[] #[]] 225 (0,0))):=by show _=_;rw[hg'.block D ((aA HDR.o)) (by simpa using dP.o.1)];exact HDR.o
    replace HI:=ae hr;replace aS:=ae (aS.o.growb hg' (Ne.symm ai.o.1));replace aH:=ae (aH.o.growb hg' (Ne.symm ai.o.2.1));replace bC:=ae (bC.o.growb hg' ai.o.2.2.1);replace HG:=ae (ah HG.o hg');clear hg hg' hr HDR d0 stf;go_wp2;go_roundw
    case rel=>exact⟨4,rfl,by omega,fun m hm=>by rcases Nat.lt_succ_iff_lt_or_eq.1 hm with h|h;exact aU.o m h;rw[h];exact HP.o,HI.o,aS.o,aH.o,bC.o,HG.o⟩
    case measure=>simp[intOf]
  ·have s0:wr.cell? ⟨A+2,8,none⟩=some (.string ⟨#[61]⟩):=by rw[ag (show _=_ from bC.o)];rfl
   have s1:wr.cell? ⟨A+2,9,none⟩=some (.func (.func 193) #[] #[]):=by rw[ag (show _=_ from bC.o)];rfl
   obtain⟨D,hD⟩:=zN (wr.heap.size);obtain⟨W0,hW0⟩:=zN (wr.alloc (.cells #[.string ⟨#[]⟩,.nilFunc] 225));have HD0:Hd (W0.heap[D]?=some (.cells #[.string ⟨#[]⟩,.nilFunc] 225 (0,0))):=by show _=_;rw[<-hW0,<-hD];exact heap_alloc_new wr _
   have k0:W0.cell? ⟨D,0,none⟩=some (.string ⟨#[]⟩):=by rw[ag HD0.o];rfl
   have k1:W0.cell? ⟨D,1,none⟩=some .nilFunc:=by rw[ag HD0.o];rfl
   have kf:=Lib.frozen_of_heap HD0.o;have stf:∀(a:Addr) (m:Mode) (w:World),(store a (.func (.func 193) #[] #[]) m).run prog w=stored prog w a (.func (.func 193) #[] #[]) m:=fun a m w=>run_store prog w a _ m rfl
   go_wp2_with (fail);obtain⟨W,hW⟩:=zN ((W0.setCell ⟨D,0,none⟩ (.string ⟨#[61]⟩)).setCell ⟨D,1,none⟩ (.func (.func 193) #[] #[]));have hgW:wr.grownBy W none:=by rw[<-hW];exact eQ (eQ (by rw[<-hW0];exact au (ak wr none) _) (Nat.le_of_eq hD) _ _) (Nat.le_of_eq hD) _ _
   have HDR:Hd (W.heap[D]?=some (.cells #[.string ⟨#[61]⟩,.func (.func 193) #[] #[]] 225 (0,0))):=by show _=_;have h0:=HD0.o;rw[<-hW];simp[World.setCell,Array.getElem?_modify,h0]
   have dP:Hd (D≠b/\A+1<D):=by
    have h1:=(aA aH.o);have h2:=HA.o;rw[hD]at h1;exact⟨by omega,h1⟩
   replace HI:=ae (HI.o.grow hgW);replace aS:=ae (aS.o.grow hgW);replace aH:=ae (aH.o.grow hgW);replace bC:=ae (bC.o.growb (bH hgW (some b)) ai.o.2.2.1);replace HG:=ae (ah HG.o (bH hgW _));have d0:W.cell? ⟨D,0,none⟩=some (.string ⟨#[61]⟩):=by rw[ag HDR.o];rfl
   try rw[hW]
   try rw[hD]
   clear hgW hW hD s0 s1 hW0 HD0 k0 k1 kf;have bZ:Hd (∀w,RS b s i w->Calls prog 130 #[.pointer (some ⟨b,0,none⟩),.string ⟨#[61]⟩] w fun e w'=>e=.returned (.bool (bJ l i 4))/\RS b s (if bJ l i 4=true then i+1 else i) w'/\w.grownBy w' (some b)):=fun w h=>CT.o 4 ⟨#[61]⟩ w rfl h
   cases hp:bJ l i 4 with
   | true =>
    rw[hp]at bZ;have gq:Hd (∀w,RS b s i w->Calls prog 130 #[.pointer (some ⟨b,0,none⟩),.string ⟨#[61]⟩] w fun e w'=>e=.returned (.bool true)/\RS b s (i+1) w'/\w.grownBy w' (some b)):=bZ.o;have HP:=ae hp;clear hp bZ
    go_region_held3 (fun w'=>w'.cell? ⟨D,0,none⟩=some (.string ⟨#[61]⟩)) ((first|(simp only[fK];assumption)|(refine World.grownBy.cell (by assumption) (by assumption) ?_;simpa using dP.o.1))) (first|(go_at_call 130;refine(gq.o _ (by first|exact HI.o|exact HI.o.drew 1)).mono ?_;rintro e u1 ⟨rfl,hr,hg⟩))
    have hg':=cZ hg;have HD1:Hd (u1.heap[D]?=some (.cells #[.string ⟨#[61]⟩,.func (.func 193) #[] #[]] 225 (0,0))):=by show _=_;rw[hg'.block D ((aA HDR.o)) (by simpa using dP.o.1)];exact HDR.o
    replace HI:=ae hr;replace aS:=ae (aS.o.growb hg' (Ne.symm ai.o.1));replace aH:=ae (aH.o.growb hg' (Ne.symm ai.o.2.1));replace bC:=ae (bC.o.growb hg' ai.o.2.2.1);replace HG:=ae (ah HG.o hg');clear hg hg' hr HDR d0 stf;have dU:=ae (abE l i (aU.o 0 (by omega)) (aU.o 1 (by omega)) (aU.o 2 (by omega)) (aU.o 3 (by omega)) HP.o);obtain⟨hsg,hj⟩:sg=0/\j=i+1:=by have:=dW.o.symm.trans dU.o;simpa using this
    rw[hj]at kK;have HF:Hd (nH sg=193/\(⟨#[61]⟩:ByteArray).toList.isEmpty=decide (sg<0)):=by rw[hsg];exact⟨rfl,(lM (by decide)).trans (by decide)⟩
    clear hsg hj aU dW dU CT CS;have stf:∀(a:Addr) (m:Mode) (w:World),(store a (.func (.func 193) #[] #[]) m).run prog w=stored prog w a (.func (.func 193) #[] #[]) m:=fun a m w=>run_store prog w a _ m rfl
    have d0:u1.cell? ⟨D,0,none⟩=some (.string ⟨#[61]⟩):=by rw[ag HD1.o];rfl
    have d1:u1.cell? ⟨D,1,none⟩=some (.func (.func 193) #[] #[]):=by rw[ag HD1.o];rfl
    obtain⟨b0,b1,b2,b3,b4,b5,b6,b7⟩:=aH.o.cells;have bf:=aH.o.f;go_wp2_with (first|(go_at_call 174;refine(kK.o _ ((HI.o.other ai.o.2.1 _ _).other ai.o.2.1 _ _)).mono ?_));rintro e u2 ⟨x1,x2,x3,P,n,rfl,hr,hg,hok⟩;have HR2:=ae hr;replace aH:=ae ((aH.o.set01 _ _).growb hg (Ne.symm ai.o.2.1));replace aS:=ae (((aS.o.other ai.o.2.2.2 _ _).other ai.o.2.2.2 _ _).growb hg (Ne.symm ai.o.1));replace HG:=ae (ah (bi (bi HG.o dK.o.2 _ _) dK.o.2 _ _) hg);have dH:=ae hok;clear hr hg hok b0 b1 b2 b3 b4 b5 b6 b7 bf d0 d1;obtain⟨b0,b1,b2,b3,b4,b5,b6,b7⟩:=aH.o.cells;have bf:=aH.o.f;obtain⟨a0,a1,a2,a3,a4,a5,a6,a7⟩:=aS.o.cells;have af:=aS.o.f;obtain⟨E,hE⟩:=zN (R.1);have HE:=ae hE;rw[hE];clear hE;go_wp2;have hrow:TB A (.string ⟨#[61]⟩) (.func (.func 193) #[] #[]) x1 x2 x3 P n (nI (pO u2 (A+1) x1 x2 x3 P n) A (.string ⟨#[61]⟩) (.func (.func 193) #[] #[]) x1 x2 x3 P n):=tC (vF aS.o ai.o.2.2.2 _ _ _ _ _) _ _ _ _ _
    refine bodyPost_ret (je (p:=2) (u:=3) rfl _ _ A _ _ (0,0) _ rfl hrow underlying229 rfl (by kernel_rfl)) rfl ?_;refine⟨⟨#[61]⟩,x1,x2,x3,P,n,?_,HF.o.2,qR (vw HR2.o ai.o.2.1 _ _ _ _ _) ai.o.1 _ _ _ _ _ _ _,vg (vC HG.o dK.o.2 _ _ _ _ _) dK.o.1 _ _ _ _ _ _ _,dH.o⟩;rw[HF.o.1,HE.o];rfl
   | false =>
    rw[hp]at bZ;have gq:Hd (∀w,RS b s i w->Calls prog 130 #[.pointer (some ⟨b,0,none⟩),.string ⟨#[61]⟩] w fun e w'=>e=.returned (.bool false)/\RS b s (i) w'/\w.grownBy w' (some b)):=bZ.o;have HP:=ae hp;clear hp bZ
    go_region_held3 (fun w'=>w'.cell? ⟨D,0,none⟩=some (.string ⟨#[61]⟩)) ((first|(simp only[fK];assumption)|(refine World.grownBy.cell (by assumption) (by assumption) ?_;simpa using dP.o.1))) (first|(go_at_call 130;refine(gq.o _ (by first|exact HI.o|exact HI.o.drew 1)).mono ?_;rintro e u1 ⟨rfl,hr,hg⟩))
    have hg':=cZ hg;have HD1:Hd (u1.heap[D]?=some (.cells #[.string ⟨#[61]⟩,.func (.func 193) #[] #[]] 225 (0,0))):=by show _=_;rw[hg'.block D ((aA HDR.o)) (by simpa using dP.o.1)];exact HDR.o
    replace HI:=ae hr;replace aS:=ae (aS.o.growb hg' (Ne.symm ai.o.1));replace aH:=ae (aH.o.growb hg' (Ne.symm ai.o.2.1));replace bC:=ae (bC.o.growb hg' ai.o.2.2.1);replace HG:=ae (ah HG.o hg');clear hg hg' hr HDR d0 stf;go_wp2;go_roundw
    case rel=>exact⟨5,rfl,by omega,fun m hm=>by rcases Nat.lt_succ_iff_lt_or_eq.1 hm with h|h;exact aU.o m h;rw[h];exact HP.o,HI.o,aS.o,aH.o,bC.o,HG.o⟩
    case measure=>simp[intOf]
  ·have s0:wr.cell? ⟨A+2,10,none⟩=some (.string ⟨#[94]⟩):=by rw[ag (show _=_ from bC.o)];rfl
   have s1:wr.cell? ⟨A+2,11,none⟩=some (.func (.func 194) #[] #[]):=by rw[ag (show _=_ from bC.o)];rfl
   obtain⟨D,hD⟩:=zN (wr.heap.size);obtain⟨W0,hW0⟩:=zN (wr.alloc (.cells #[.string ⟨#[]⟩,.nilFunc] 225));have HD0:Hd (W0.heap[D]?=some (.cells #[.string ⟨#[]⟩,.nilFunc] 225 (0,0))):=by show _=_;rw[<-hW0,<-hD];exact heap_alloc_new wr _
   have k0:W0.cell? ⟨D,0,none⟩=some (.string ⟨#[]⟩):=by rw[ag HD0.o];rfl
   have k1:W0.cell? ⟨D,1,none⟩=some .nilFunc:=by rw[ag HD0.o];rfl
   have kf:=Lib.frozen_of_heap HD0.o;have stf:∀(a:Addr) (m:Mode) (w:World),(store a (.func (.func 194) #[] #[]) m).run prog w=stored prog w a (.func (.func 194) #[] #[]) m:=fun a m w=>run_store prog w a _ m rfl
   go_wp2_with (fail);obtain⟨W,hW⟩:=zN ((W0.setCell ⟨D,0,none⟩ (.string ⟨#[94]⟩)).setCell ⟨D,1,none⟩ (.func (.func 194) #[] #[]));have hgW:wr.grownBy W none:=by rw[<-hW];exact eQ (eQ (by rw[<-hW0];exact au (ak wr none) _) (Nat.le_of_eq hD) _ _) (Nat.le_of_eq hD) _ _
   have HDR:Hd (W.heap[D]?=some (.cells #[.string ⟨#[94]⟩,.func (.func 194) #[] #[]] 225 (0,0))):=by show _=_;have h0:=HD0.o;rw[<-hW];simp[World.setCell,Array.getElem?_modify,h0]
   have dP:Hd (D≠b/\A+1<D):=by
    have h1:=(aA aH.o);have h2:=HA.o;rw[hD]at h1;exact⟨by omega,h1⟩
   replace HI:=ae (HI.o.grow hgW);replace aS:=ae (aS.o.grow hgW);replace aH:=ae (aH.o.grow hgW);replace bC:=ae (bC.o.growb (bH hgW (some b)) ai.o.2.2.1);replace HG:=ae (ah HG.o (bH hgW _));have d0:W.cell? ⟨D,0,none⟩=some (.string ⟨#[94]⟩):=by rw[ag HDR.o];rfl
   try rw[hW]
   try rw[hD]
   clear hgW hW hD s0 s1 hW0 HD0 k0 k1 kf;have bZ:Hd (∀w,RS b s i w->Calls prog 130 #[.pointer (some ⟨b,0,none⟩),.string ⟨#[94]⟩] w fun e w'=>e=.returned (.bool (bJ l i 5))/\RS b s (if bJ l i 5=true then i+1 else i) w'/\w.grownBy w' (some b)):=fun w h=>CT.o 5 ⟨#[94]⟩ w rfl h
   cases hp:bJ l i 5 with
   | true =>
    rw[hp]at bZ;have gq:Hd (∀w,RS b s i w->Calls prog 130 #[.pointer (some ⟨b,0,none⟩),.string ⟨#[94]⟩] w fun e w'=>e=.returned (.bool true)/\RS b s (i+1) w'/\w.grownBy w' (some b)):=bZ.o;have HP:=ae hp;clear hp bZ
    go_region_held3 (fun w'=>w'.cell? ⟨D,0,none⟩=some (.string ⟨#[94]⟩)) ((first|(simp only[fK];assumption)|(refine World.grownBy.cell (by assumption) (by assumption) ?_;simpa using dP.o.1))) (first|(go_at_call 130;refine(gq.o _ (by first|exact HI.o|exact HI.o.drew 1)).mono ?_;rintro e u1 ⟨rfl,hr,hg⟩))
    have hg':=cZ hg;have HD1:Hd (u1.heap[D]?=some (.cells #[.string ⟨#[94]⟩,.func (.func 194) #[] #[]] 225 (0,0))):=by show _=_;rw[hg'.block D ((aA HDR.o)) (by simpa using dP.o.1)];exact HDR.o
    replace HI:=ae hr;replace aS:=ae (aS.o.growb hg' (Ne.symm ai.o.1));replace aH:=ae (aH.o.growb hg' (Ne.symm ai.o.2.1));replace bC:=ae (bC.o.growb hg' ai.o.2.2.1);replace HG:=ae (ah HG.o hg');clear hg hg' hr HDR d0 stf;have dU:=ae (abG l i (aU.o 0 (by omega)) (aU.o 1 (by omega)) (aU.o 2 (by omega)) (aU.o 3 (by omega)) (aU.o 4 (by omega)) HP.o);obtain⟨hsg,hj⟩:sg=5/\j=i+1:=by have:=dW.o.symm.trans dU.o;simpa using this
    rw[hj]at kK;have HF:Hd (nH sg=194/\(⟨#[94]⟩:ByteArray).toList.isEmpty=decide (sg<0)):=by rw[hsg];exact⟨rfl,(lM (by decide)).trans (by decide)⟩
    clear hsg hj aU dW dU CT CS;have stf:∀(a:Addr) (m:Mode) (w:World),(store a (.func (.func 194) #[] #[]) m).run prog w=stored prog w a (.func (.func 194) #[] #[]) m:=fun a m w=>run_store prog w a _ m rfl
    have d0:u1.cell? ⟨D,0,none⟩=some (.string ⟨#[94]⟩):=by rw[ag HD1.o];rfl
    have d1:u1.cell? ⟨D,1,none⟩=some (.func (.func 194) #[] #[]):=by rw[ag HD1.o];rfl
    obtain⟨b0,b1,b2,b3,b4,b5,b6,b7⟩:=aH.o.cells;have bf:=aH.o.f;go_wp2_with (first|(go_at_call 174;refine(kK.o _ ((HI.o.other ai.o.2.1 _ _).other ai.o.2.1 _ _)).mono ?_));rintro e u2 ⟨x1,x2,x3,P,n,rfl,hr,hg,hok⟩;have HR2:=ae hr;replace aH:=ae ((aH.o.set01 _ _).growb hg (Ne.symm ai.o.2.1));replace aS:=ae (((aS.o.other ai.o.2.2.2 _ _).other ai.o.2.2.2 _ _).growb hg (Ne.symm ai.o.1));replace HG:=ae (ah (bi (bi HG.o dK.o.2 _ _) dK.o.2 _ _) hg);have dH:=ae hok;clear hr hg hok b0 b1 b2 b3 b4 b5 b6 b7 bf d0 d1;obtain⟨b0,b1,b2,b3,b4,b5,b6,b7⟩:=aH.o.cells;have bf:=aH.o.f;obtain⟨a0,a1,a2,a3,a4,a5,a6,a7⟩:=aS.o.cells;have af:=aS.o.f;obtain⟨E,hE⟩:=zN (R.1);have HE:=ae hE;rw[hE];clear hE;go_wp2;have hrow:TB A (.string ⟨#[94]⟩) (.func (.func 194) #[] #[]) x1 x2 x3 P n (nI (pO u2 (A+1) x1 x2 x3 P n) A (.string ⟨#[94]⟩) (.func (.func 194) #[] #[]) x1 x2 x3 P n):=tC (vF aS.o ai.o.2.2.2 _ _ _ _ _) _ _ _ _ _
    refine bodyPost_ret (je (p:=2) (u:=3) rfl _ _ A _ _ (0,0) _ rfl hrow underlying229 rfl (by kernel_rfl)) rfl ?_;refine⟨⟨#[94]⟩,x1,x2,x3,P,n,?_,HF.o.2,qR (vw HR2.o ai.o.2.1 _ _ _ _ _) ai.o.1 _ _ _ _ _ _ _,vg (vC HG.o dK.o.2 _ _ _ _ _) dK.o.1 _ _ _ _ _ _ _,dH.o⟩;rw[HF.o.1,HE.o];rfl
   | false =>
    rw[hp]at bZ;have gq:Hd (∀w,RS b s i w->Calls prog 130 #[.pointer (some ⟨b,0,none⟩),.string ⟨#[94]⟩] w fun e w'=>e=.returned (.bool false)/\RS b s (i) w'/\w.grownBy w' (some b)):=bZ.o;have HP:=ae hp;clear hp bZ
    go_region_held3 (fun w'=>w'.cell? ⟨D,0,none⟩=some (.string ⟨#[94]⟩)) ((first|(simp only[fK];assumption)|(refine World.grownBy.cell (by assumption) (by assumption) ?_;simpa using dP.o.1))) (first|(go_at_call 130;refine(gq.o _ (by first|exact HI.o|exact HI.o.drew 1)).mono ?_;rintro e u1 ⟨rfl,hr,hg⟩))
    have hg':=cZ hg;have HD1:Hd (u1.heap[D]?=some (.cells #[.string ⟨#[94]⟩,.func (.func 194) #[] #[]] 225 (0,0))):=by show _=_;rw[hg'.block D ((aA HDR.o)) (by simpa using dP.o.1)];exact HDR.o
    replace HI:=ae hr;replace aS:=ae (aS.o.growb hg' (Ne.symm ai.o.1));replace aH:=ae (aH.o.growb hg' (Ne.symm ai.o.2.1));replace bC:=ae (bC.o.growb hg' ai.o.2.2.1);replace HG:=ae (ah HG.o hg');clear hg hg' hr HDR d0 stf;go_wp2;go_roundw
    case rel=>exact⟨6,rfl,by omega,fun m hm=>by rcases Nat.lt_succ_iff_lt_or_eq.1 hm with h|h;exact aU.o m h;rw[h];exact HP.o,HI.o,aS.o,aH.o,bC.o,HG.o⟩
    case measure=>simp[intOf]
  ·have s0:wr.cell? ⟨A+2,12,none⟩=some (.string ⟨#[126]⟩):=by rw[ag (show _=_ from bC.o)];rfl
   have s1:wr.cell? ⟨A+2,13,none⟩=some (.func (.func 197) #[] #[]):=by rw[ag (show _=_ from bC.o)];rfl
   obtain⟨D,hD⟩:=zN (wr.heap.size);obtain⟨W0,hW0⟩:=zN (wr.alloc (.cells #[.string ⟨#[]⟩,.nilFunc] 225));have HD0:Hd (W0.heap[D]?=some (.cells #[.string ⟨#[]⟩,.nilFunc] 225 (0,0))):=by show _=_;rw[<-hW0,<-hD];exact heap_alloc_new wr _
   have k0:W0.cell? ⟨D,0,none⟩=some (.string ⟨#[]⟩):=by rw[ag HD0.o];rfl
   have k1:W0.cell? ⟨D,1,none⟩=some .nilFunc:=by rw[ag HD0.o];rfl
   have kf:=Lib.frozen_of_heap HD0.o;have stf:∀(a:Addr) (m:Mode) (w:World),(store a (.func (.func 197) #[] #[]) m).run prog w=stored prog w a (.func (.func 197) #[] #[]) m:=fun a m w=>run_store prog w a _ m rfl
   go_wp2_with (fail);obtain⟨W,hW⟩:=zN ((W0.setCell ⟨D,0,none⟩ (.string ⟨#[126]⟩)).setCell ⟨D,1,none⟩ (.func (.func 197) #[] #[]));have hgW:wr.grownBy W none:=by rw[<-hW];exact eQ (eQ (by rw[<-hW0];exact au (ak wr none) _) (Nat.le_of_eq hD) _ _) (Nat.le_of_eq hD) _ _
   have HDR:Hd (W.heap[D]?=some (.cells #[.string ⟨#[126]⟩,.func (.func 197) #[] #[]] 225 (0,0))):=by show _=_;have h0:=HD0.o;rw[<-hW];simp[World.setCell,Array.getElem?_modify,h0]
   have dP:Hd (D≠b/\A+1<D):=by
    have h1:=(aA aH.o);have h2:=HA.o;rw[hD]at h1;exact⟨by omega,h1⟩
   replace HI:=ae (HI.o.grow hgW);replace aS:=ae (aS.o.grow hgW);replace aH:=ae (aH.o.grow hgW);replace bC:=ae (bC.o.growb (bH hgW (some b)) ai.o.2.2.1);replace HG:=ae (ah HG.o (bH hgW _));have d0:W.cell? ⟨D,0,none⟩=some (.string ⟨#[126]⟩):=by rw[ag HDR.o];rfl
   try rw[hW]
   try rw[hD]
   clear hgW hW hD s0 s1 hW0 HD0 k0 k1 kf;have bZ:Hd (∀w,RS b s i w->Calls prog 130 #[.pointer (some ⟨b,0,none⟩),.string ⟨#[126]⟩] w fun e w'=>e=.returned (.bool (bJ l i 6))/\RS b s (if bJ l i 6=true then i+1 else i) w'/\w.grownBy w' (some b)):=fun w h=>CT.o 6 ⟨#[126]⟩ w rfl h
   cases hp:bJ l i 6 with
   | true =>
    rw[hp]at bZ;have gq:Hd (∀w,RS b s i w->Calls prog 130 #[.pointer (some ⟨b,0,none⟩),.string ⟨#[126]⟩] w fun e w'=>e=.returned (.bool true)/\RS b s (i+1) w'/\w.grownBy w' (some b)):=bZ.o;have HP:=ae hp;clear hp bZ
    go_region_held3 (fun w'=>w'.cell? ⟨D,0,none⟩=some (.string ⟨#[126]⟩)) ((first|(simp only[fK];assumption)|(refine World.grownBy.cell (by assumption) (by assumption) ?_;simpa using dP.o.1))) (first|(go_at_call 130;refine(gq.o _ (by first|exact HI.o|exact HI.o.drew 1)).mono ?_;rintro e u1 ⟨rfl,hr,hg⟩))
    have hg':=cZ hg;have HD1:Hd (u1.heap[D]?=some (.cells #[.string ⟨#[126]⟩,.func (.func 197) #[] #[]] 225 (0,0))):=by show _=_;rw[hg'.block D ((aA HDR.o)) (by simpa using dP.o.1)];exact HDR.o
    replace HI:=ae hr;replace aS:=ae (aS.o.growb hg' (Ne.symm ai.o.1));replace aH:=ae (aH.o.growb hg' (Ne.symm ai.o.2.1));replace bC:=ae (bC.o.growb hg' ai.o.2.2.1);replace HG:=ae (ah HG.o hg');clear hg hg' hr HDR d0 stf;have dU:=ae (abH l i (aU.o 0 (by omega)) (aU.o 1 (by omega)) (aU.o 2 (by omega)) (aU.o 3 (by omega)) (aU.o 4 (by omega)) (aU.o 5 (by omega)) HP.o);obtain⟨hsg,hj⟩:sg=6/\j=i+1:=by have:=dW.o.symm.trans dU.o;simpa using this
    rw[hj]at kK;have HF:Hd (nH sg=197/\(⟨#[126]⟩:ByteArray).toList.isEmpty=decide (sg<0)):=by rw[hsg];exact⟨rfl,(lM (by decide)).trans (by decide)⟩
    clear hsg hj aU dW dU CT CS;have stf:∀(a:Addr) (m:Mode) (w:World),(store a (.func (.func 197) #[] #[]) m).run prog w=stored prog w a (.func (.func 197) #[] #[]) m:=fun a m w=>run_store prog w a _ m rfl
    have d0:u1.cell? ⟨D,0,none⟩=some (.string ⟨#[126]⟩):=by rw[ag HD1.o];rfl
    have d1:u1.cell? ⟨D,1,none⟩=some (.func (.func 197) #[] #[]):=by rw[ag HD1.o];rfl
    obtain⟨b0,b1,b2,b3,b4,b5,b6,b7⟩:=aH.o.cells;have bf:=aH.o.f;go_wp2_with (first|(go_at_call 174;refine(kK.o _ ((HI.o.other ai.o.2.1 _ _).other ai.o.2.1 _ _)).mono ?_));rintro e u2 ⟨x1,x2,x3,P,n,rfl,hr,hg,hok⟩;have HR2:=ae hr;replace aH:=ae ((aH.o.set01 _ _).growb hg (Ne.symm ai.o.2.1));replace aS:=ae (((aS.o.other ai.o.2.2.2 _ _).other ai.o.2.2.2 _ _).growb hg (Ne.symm ai.o.1));replace HG:=ae (ah (bi (bi HG.o dK.o.2 _ _) dK.o.2 _ _) hg);have dH:=ae hok;clear hr hg hok b0 b1 b2 b3 b4 b5 b6 b7 bf d0 d1;obtain⟨b0,b1,b2,b3,b4,b5,b6,b7⟩:=aH.o.cells;have bf:=aH.o.f;obtain⟨a0,a1,a2,a3,a4,a5,a6,a7⟩:=aS.o.cells;have af:=aS.o.f;obtain⟨E,hE⟩:=zN (R.1);have HE:=ae hE;rw[hE];clear hE;go_wp2;have hrow:TB A (.string ⟨#[126]⟩) (.func (.func 197) #[] #[]) x1 x2 x3 P n (nI (pO u2 (A+1) x1 x2 x3 P n) A (.string ⟨#[126]⟩) (.func (.func 197) #[] #[]) x1 x2 x3 P n):=tC (vF aS.o ai.o.2.2.2 _ _ _ _ _) _ _ _ _ _
    refine bodyPost_ret (je (p:=2) (u:=3) rfl _ _ A _ _ (0,0) _ rfl hrow underlying229 rfl (by kernel_rfl)) rfl ?_;refine⟨⟨#[126]⟩,x1,x2,x3,P,n,?_,HF.o.2,qR (vw HR2.o ai.o.2.1 _ _ _ _ _) ai.o.1 _ _ _ _ _ _ _,vg (vC HG.o dK.o.2 _ _ _ _ _) dK.o.1 _ _ _ _ _ _ _,dH.o⟩;rw[HF.o.1,HE.o];rfl
   | false =>
    rw[hp]at bZ;have gq:Hd (∀w,RS b s i w->Calls prog 130 #[.pointer (some ⟨b,0,none⟩),.string ⟨#[126]⟩] w fun e w'=>e=.returned (.bool false)/\RS b s (i) w'/\w.grownBy w' (some b)):=bZ.o;have HP:=ae hp;clear hp bZ
    go_region_held3 (fun w'=>w'.cell? ⟨D,0,none⟩=some (.string ⟨#[126]⟩)) ((first|(simp only[fK];assumption)|(refine World.grownBy.cell (by assumption) (by assumption) ?_;simpa using dP.o.1))) (first|(go_at_call 130;refine(gq.o _ (by first|exact HI.o|exact HI.o.drew 1)).mono ?_;rintro e u1 ⟨rfl,hr,hg⟩))
    have hg':=cZ hg;have HD1:Hd (u1.heap[D]?=some (.cells #[.string ⟨#[126]⟩,.func (.func 197) #[] #[]] 225 (0,0))):=by show _=_;rw[hg'.block D ((aA HDR.o)) (by simpa using dP.o.1)];exact HDR.o
    replace HI:=ae hr;replace aS:=ae (aS.o.growb hg' (Ne.symm ai.o.1));replace aH:=ae (aH.o.growb hg' (Ne.symm ai.o.2.1));replace bC:=ae (bC.o.growb hg' ai.o.2.2.1);replace HG:=ae (ah HG.o hg');clear hg hg' hr HDR d0 stf;go_wp2;go_roundw
    case rel=>exact⟨7,rfl,by omega,fun m hm=>by rcases Nat.lt_succ_iff_lt_or_eq.1 hm with h|h;exact aU.o m h;rw[h];exact HP.o,HI.o,aS.o,aH.o,bC.o,HG.o⟩
    case measure=>simp[intOf]
  ·have s0:wr.cell? ⟨A+2,14,none⟩=some (.string ⟨#[]⟩):=by rw[ag (show _=_ from bC.o)];rfl
   have s1:wr.cell? ⟨A+2,15,none⟩=some (.func (.func 193) #[] #[]):=by rw[ag (show _=_ from bC.o)];rfl
   obtain⟨D,hD⟩:=zN (wr.heap.size);obtain⟨W0,hW0⟩:=zN (wr.alloc (.cells #[.string ⟨#[]⟩,.nilFunc] 225));have HD0:Hd (W0.heap[D]?=some (.cells #[.string ⟨#[]⟩,.nilFunc] 225 (0,0))):=by show _=_;rw[<-hW0,<-hD];exact heap_alloc_new wr _
   have k0:W0.cell? ⟨D,0,none⟩=some (.string ⟨#[]⟩):=by rw[ag HD0.o];rfl
   have k1:W0.cell? ⟨D,1,none⟩=some .nilFunc:=by rw[ag HD0.o];rfl
   have kf:=Lib.frozen_of_heap HD0.o;have stf:∀(a:Addr) (m:Mode) (w:World),(store a (.func (.func 193) #[] #[]) m).run prog w=stored prog w a (.func (.func 193) #[] #[]) m:=fun a m w=>run_store prog w a _ m rfl
   go_wp2_with (fail);obtain⟨W,hW⟩:=zN ((W0.setCell ⟨D,0,none⟩ (.string ⟨#[]⟩)).setCell ⟨D,1,none⟩ (.func (.func 193) #[] #[]));have hgW:wr.grownBy W none:=by rw[<-hW];exact eQ (eQ (by rw[<-hW0];exact au (ak wr none) _) (Nat.le_of_eq hD) _ _) (Nat.le_of_eq hD) _ _
   have HDR:Hd (W.heap[D]?=some (.cells #[.string ⟨#[]⟩,.func (.func 193) #[] #[]] 225 (0,0))):=by show _=_;have h0:=HD0.o;rw[<-hW];simp[World.setCell,Array.getElem?_modify,h0]
   have dP:Hd (D≠b/\A+1<D):=by
    have h1:=(aA aH.o);have h2:=HA.o;rw[hD]at h1;exact⟨by omega,h1⟩
   replace HI:=ae (HI.o.grow hgW);replace aS:=ae (aS.o.grow hgW);replace aH:=ae (aH.o.grow hgW);replace bC:=ae (bC.o.growb (bH hgW (some b)) ai.o.2.2.1);replace HG:=ae (ah HG.o (bH hgW _));have d0:W.cell? ⟨D,0,none⟩=some (.string ⟨#[]⟩):=by rw[ag HDR.o];rfl
   try rw[hW]
   try rw[hD]
   clear hgW hW hD s0 s1 hW0 HD0 k0 k1 kf;have bZ:Hd (∀w,RS b s i w->Calls prog 130 #[.pointer (some ⟨b,0,none⟩),.string ⟨#[]⟩] w fun e w'=>e=.returned (.bool (bJ l i 7))/\RS b s (if bJ l i 7=true then i+0 else i) w'/\w.grownBy w' (some b)):=fun w h=>CT.o 7 ⟨#[]⟩ w rfl h
   cases hp:bJ l i 7 with
   | true =>
    rw[hp]at bZ;have gq:Hd (∀w,RS b s i w->Calls prog 130 #[.pointer (some ⟨b,0,none⟩),.string ⟨#[]⟩] w fun e w'=>e=.returned (.bool true)/\RS b s (i) w'/\w.grownBy w' (some b)):=bZ.o;have HP:=ae hp;clear hp bZ
    go_region_held3 (fun w'=>w'.cell? ⟨D,0,none⟩=some (.string ⟨#[]⟩)) ((first|(simp only[fK];assumption)|(refine World.grownBy.cell (by assumption) (by assumption) ?_;simpa using dP.o.1))) (first|(go_at_call 130;refine(gq.o _ (by first|exact HI.o|exact HI.o.drew 1)).mono ?_;rintro e u1 ⟨rfl,hr,hg⟩))
    have hg':=cZ hg;have HD1:Hd (u1.heap[D]?=some (.cells #[.string ⟨#[]⟩,.func (.func 193) #[] #[]] 225 (0,0))):=by show _=_;rw[hg'.block D ((aA HDR.o)) (by simpa using dP.o.1)];exact HDR.o
    replace HI:=ae hr;replace aS:=ae (aS.o.growb hg' (Ne.symm ai.o.1));replace aH:=ae (aH.o.growb hg' (Ne.symm ai.o.2.1));replace bC:=ae (bC.o.growb hg' ai.o.2.2.1);replace HG:=ae (ah HG.o hg');clear hg hg' hr HDR d0 stf;have dU:=ae (abI l i (aU.o 0 (by omega)) (aU.o 1 (by omega)) (aU.o 2 (by omega)) (aU.o 3 (by omega)) (aU.o 4 (by omega)) (aU.o 5 (by omega)) (aU.o 6 (by omega)));obtain⟨hsg,hj⟩:sg=-1/\j=i:=by have:=dW.o.symm.trans dU.o;simpa using this
    rw[hj]at kK;have HF:Hd (nH sg=193/\(⟨#[]⟩:ByteArray).toList.isEmpty=decide (sg<0)):=by rw[hsg];exact⟨rfl,(rQ (by decide)).trans (by decide)⟩
    clear hsg hj aU dW dU CT CS;have stf:∀(a:Addr) (m:Mode) (w:World),(store a (.func (.func 193) #[] #[]) m).run prog w=stored prog w a (.func (.func 193) #[] #[]) m:=fun a m w=>run_store prog w a _ m rfl
    have d0:u1.cell? ⟨D,0,none⟩=some (.string ⟨#[]⟩):=by rw[ag HD1.o];rfl
    have d1:u1.cell? ⟨D,1,none⟩=some (.func (.func 193) #[] #[]):=by rw[ag HD1.o];rfl
    obtain⟨b0,b1,b2,b3,b4,b5,b6,b7⟩:=aH.o.cells;have bf:=aH.o.f;go_wp2_with (first|(go_at_call 174;refine(kK.o _ ((HI.o.other ai.o.2.1 _ _).other ai.o.2.1 _ _)).mono ?_));rintro e u2 ⟨x1,x2,x3,P,n,rfl,hr,hg,hok⟩;have HR2:=ae hr;replace aH:=ae ((aH.o.set01 _ _).growb hg (Ne.symm ai.o.2.1));replace aS:=ae (((aS.o.other ai.o.2.2.2 _ _).other ai.o.2.2.2 _ _).growb hg (Ne.symm ai.o.1));replace HG:=ae (ah (bi (bi HG.o dK.o.2 _ _) dK.o.2 _ _) hg);have dH:=ae hok;clear hr hg hok b0 b1 b2 b3 b4 b5 b6 b7 bf d0 d1;obtain⟨b0,b1,b2,b3,b4,b5,b6,b7⟩:=aH.o.cells;have bf:=aH.o.f;obtain⟨a0,a1,a2,a3,a4,a5,a6,a7⟩:=aS.o.cells;have af:=aS.o.f;obtain⟨E,hE⟩:=zN (R.1);have HE:=ae hE;rw[hE];clear hE;go_wp2;have hrow:TB A (.string ⟨#[]⟩) (.func (.func 193) #[] #[]) x1 x2 x3 P n (nI (pO u2 (A+1) x1 x2 x3 P n) A (.string ⟨#[]⟩) (.func (.func 193) #[] #[]) x1 x2 x3 P n):=tC (vF aS.o ai.o.2.2.2 _ _ _ _ _) _ _ _ _ _
    refine bodyPost_ret (je (p:=2) (u:=3) rfl _ _ A _ _ (0,0) _ rfl hrow underlying229 rfl (by kernel_rfl)) rfl ?_;refine⟨⟨#[]⟩,x1,x2,x3,P,n,?_,HF.o.2,qR (vw HR2.o ai.o.2.1 _ _ _ _ _) ai.o.1 _ _ _ _ _ _ _,vg (vC HG.o dK.o.2 _ _ _ _ _) dK.o.1 _ _ _ _ _ _ _,dH.o⟩;rw[HF.o.1,HE.o];rfl
   | false =>
    have:bJ l i 7=true:=by unfold bJ zB;cases l.drop i<;>rfl
    rw[this]at hp
    cases hp
open Go.RowKit
def GR(g b:Nat)(w:World):Prop:=w.cell? ⟨g,0,none⟩=some (.pointer (some ⟨b,0,none⟩))
theorem GR.drew{g b:Nat}{w:World}(h:GR g b w)(n:Nat):GR g b (w.drewN n):=h
theorem GR.growb{g b q:Nat}{w w':World}(h:GR g b w)(hg:w.grownBy w' (some q))(hn:g≠q):GR g b w':=hg.cell h (by simpa using hn)
theorem GR.grow{g b:Nat}{w w':World}(h:GR g b w)(hg:w.grownBy w' none):GR g b w':=hg.cell h (by simp)
theorem GR.other{g b v:Nat}{w:World}(h:GR g b w)(hn:g≠v)(o:Nat)(x:Value):GR g b (w.setCell ⟨v,o,none⟩ x):=by
 unfold GR at h ⊢;unfold World.cell? at h ⊢;rw[heap_setCell_other w _ g x (by simpa using hn)];exact h
theorem Jn:∀(l t:List UInt8),Lib.hasPrefix l t=(decide (t.length<=l.length) && (l.take t.length == t))
 | l,[]=>by cases l<;>simp[Lib.hasPrefix]
 | [],c :: t=>by simp[Lib.hasPrefix]
 | x :: l,c :: t=>by
  show(c == x && Lib.hasPrefix l t)=_;rw[Jn l t];simp only[List.length_cons,List.take_succ_cons,Nat.add_le_add_iff_right];rw[Bool.eq_iff_iff];simp only[Bool.and_eq_true,beq_iff_eq,decide_eq_true_eq,List.cons.injEq];constructor
  ·rintro⟨h1,h2,h3⟩;exact⟨h2,h1.symm,h3⟩
  ·rintro⟨h2,h1,h3⟩;exact⟨h1.symm,h2,h3⟩
theorem abL(l t:List UInt8)(i:Nat)(h:i+t.length<=l.length):Lib.hasPrefix (l.drop i) t=(aK l i t.length == t):=by
 rw[Jn];unfold aK;rw[decide_eq_true (by rw[List.length_drop];omega),Bool.true_and]
theorem abM(l t:List UInt8)(i:Nat)(h:¬i+t.length<=l.length)(hi:i<=l.length):Lib.hasPrefix (l.drop i) t=false:=by
 rw[Jn,decide_eq_false (by rw[List.length_drop];omega),Bool.false_and]
theorem toList_eq(a b:ByteArray):(a.toList == b.toList)=(a.data.toList == b.data.toList):=by rw[Go.Lib.toList_data,Go.Lib.toList_data]
theorem BM(g b:Nat)(s t:ByteArray)(i:Nat)(E:Int)(a:Nat)(w:World)(hE:¬E=0)(hg:GR g b w)(h:VS b s i E a w) :
  Calls prog 77 #[.pointer (some ⟨g,0,none⟩),.string t] w fun e w'=>e=.returned (.bool false)/\∃n,w'=w.drewN n:=by
 have h0:=h.c0;have h1:=h.c1;have h2:=h.c2;have hn:(E == 0)=false:=by simpa using hE
 have g0:w.cell? ⟨g,0,none⟩=some (.pointer (some ⟨b,0,none⟩)):=hg;clear h hg hE;go_enter func77,ntmps77;go_wp2;go_quiet (fail);go_wp2;go_ret;exact⟨rfl,_,rfl⟩
theorem Jo(g b:Nat)(s t:ByteArray)(i:Nat)(a:Nat)(w:World)(hi:i<=s.size)(hg:GR g b w)(h:VS b s i 0 a w)(hs:s.size<2 ^ 61)(ht:t.size<2 ^ 61) :
  Calls prog 77 #[.pointer (some ⟨g,0,none⟩),.string t] w fun e w'=>e=.returned (.bool (Lib.hasPrefix (s.data.toList.drop i) t.data.toList))/\∃n,w'=w.drewN n:=by
 have h0:=h.c0;have h1:=h.c1;have h2:=h.c2;have g0:w.cell? ⟨g,0,none⟩=some (.pointer (some ⟨b,0,none⟩)):=hg;have hw:IntKind.i64.wrap ((i:Int)+(t.size:Int))=(i:Int)+(t.size:Int):=by rw[IntKind.wrap_i64];omega
 clear h hg
 by_cases hf:i+t.size<=s.size
 ·have hle:decide ((i:Int)+(t.size:Int)<=(s.size:Int))=true:=by simp;omega
  obtain⟨X,hX⟩:∃X:ByteArray,X=⟨(aK s.data.toList i t.size).toArray⟩:=⟨_,rfl⟩;have sl:∀wx,(Instr.slice 9 (.string s) (some (.int .i64 (i:Int))) (some (.int .i64 ((i:Int)+(t.size:Int)))) none).run prog wx=.ok (.string X) wx:=fun wx=>by
   rw[hX];have:=pY s i (i+t.size) (by omega) hf wx;rw[show i+t.size-i=t.size by omega,show((i+t.size:Nat):Int)=(i:Int)+(t.size:Int) by omega]at this;exact this
  have hp:=abL s.data.toList t.data.toList i (by simpa using hf);obtain⟨r,hr⟩:=zN ((X.toList == t.toList));have HP:Hd (Lib.hasPrefix (s.data.toList.drop i) t.data.toList=r):=by
   show _=_;rw[hp,<-hr,toList_eq,hX];simp
  rw[HP.o];clear hX hp hf hi hs ht
  cases r with
  | true =>
   go_enter func77,ntmps77;go_wp2;go_quiet (fail);go_wp2;go_ret;exact⟨rfl,_,rfl⟩
  | false =>
   go_enter func77,ntmps77;go_wp2;go_quiet (fail);go_wp2;go_ret;exact⟨rfl,_,rfl⟩
 ·have hle:decide ((i:Int)+(t.size:Int)<=(s.size:Int))=false:=by simp;omega
  have HP:=ae (abM s.data.toList t.data.toList i (by simpa using hf) (by simpa using hi));rw[HP.o];clear hf hi hs ht;go_enter func77,ntmps77;go_wp2;go_quiet (fail);go_wp2;go_ret;exact⟨rfl,_,rfl⟩
open Go.RowKit
def OS(w:World)(base:Nat)(sl:Value)(L:List Sp):Prop:=w.ownsRow base 181 11 sl L.length (L.flatMap fA)
theorem OS.sps{w:World}{base:Nat}{sl:Value}{L:List Sp}(h:OS w base sl L):SpS w sl L:=Nu h
theorem OS.grow{w w':World}{base:Nat}{sl:Value}{L:List Sp}(h:OS w base sl L)(hg:w.grownBy w' none):OS w' base sl L:=oN h hg
theorem OS.growb{w w':World}{base:Nat}{sl:Value}{L:List Sp}{b:Nat}(h:OS w base sl L)(hg:w.grownBy w' (some b))(hb:b<base):OS w' base sl L:=by
 refine⟨h.1,?_⟩
 rcases h.2 with hn|⟨g,cap,cur,hv,hbg,hc,rest⟩
 ·exact Or.inl hn
 ·refine Or.inr ⟨g,cap,cur,hv,hbg,?_,rest⟩;rw[hg.block g ((aA hc)) (by simp;omega)];exact hc
theorem OS.base{w:World}{base base':Nat}{sl:Value}{L:List Sp}(h:OS w base sl L)(hb:base'<=base):OS w base' sl L:=by
 refine⟨h.1,?_⟩
 rcases h.2 with hn|⟨g,cap,cur,hv,hbg,rest⟩
 ·exact Or.inl hn
 ·exact Or.inr ⟨g,cap,cur,hv,Nat.le_trans hb hbg,rest⟩
theorem OS.emp(w:World)(base:Nat):OS w base (.slice none 0 0) []:=World.ownsRow_nil _ _ _ _
theorem OS.slice{w:World}{base:Nat}{sl:Value}{L:List Sp}(h:OS w base sl L):∃o n c,sl=.slice o n c:=yM h.sps
theorem OS.one{w:World}{base g:Nat}{s:Sp}(hb:base<=g)(h:w.heap[g]?=some (.cells #[.int .i64 s.f1,.int .i64 s.f2,.int .i64 s.f3,.string s.f4,.string s.f5,.int .i64 s.t1,.int .i64 s.t2,.int .i64 s.t3,.string s.t4,.string s.t5,.bool s.o] 181 (0,0))):OS w base (.slice (some ⟨g,0,none⟩) 1 1) [s]:=by
 refine⟨rfl,Or.inr ⟨g,1,_,rfl,hb,h,Nat.le_refl _,by decide,rfl,rfl⟩⟩
theorem abN(ch:Int->Bool)(Ls:List (List Sp))(E:List Er)(hE:E.Perm (dM 0 Ls))(hs:nY (E.map aP)) :
  (eP (fun b=>ch (having Ls.length b)) (fun _=>0) false (E.map aP)).length<=(dM 0 Ls).length:=by
 have e1:=Dv (fun b=>ch (having Ls.length b)) (E.map aP) (fun x=>ch (having Ls.length (fun j=>eY (E.map aP) j x))) (fun x=>rfl) hs (E.map aP) [] false rfl;have e2:(fun j=>tot [] j)=(fun _=>(0:Int)):=rfl;rw[e2]at e1;have hsub:=AU (fun x=>ch (having Ls.length (fun j=>eY (E.map aP) j x))) (jd (E.map aP)) false;rw[<-e1]at hsub;have h1:(jd (E.map aP)).length<=(E.map aP).length:=by
  have:∀l:List Ed,(jd l).length<=l.length:=by
   intro l
   induction l with
   | nil=>simp[jd]
   | cons e r ih =>
    rw[jd];split
    ·rw[List.length_cons];omega
    ·rw[List.length_cons,List.length_cons];omega
  exact this _
 have h2:=hsub.length_le;have h4:=hE.length_eq;rw[List.length_map]at h1;omega
def Jp(f:V->Bool)(k:Nat)(w:World)(e:Ending)(w':World):Prop:=w.grownBy w' none/\∃(o:Option Addr) (n c:Nat) (T:List V),e=.returned (.tuple #[.slice o n c,.int .i64 0])/\OS w' w.heap.size (.slice o n c) (outs T)/\LOk (outs T) k/\NT T 2/\∀x,eu (outs T) x=f x
theorem abO{T:List V}{j k:Nat}(h:NT T j)(hk:j<=k):NT T k:=⟨h.up,h.ok,h.sm,h.sd,Nat.le_trans h.ln (Nat.mul_le_mul_left _ hk)⟩
theorem QK{ch:Int->Bool}(h0:ch 0=false){Ls:List (List Sp)}{f:V->Bool}{w:World}{e:Ending}{w':World}(k:Nat)(hl2:Ls.length<=2)(hk:(dM 0 Ls).length<=2*k)(hsz:∀l∈Ls,l.length<=1048576/\∀s∈l,jg s)(hsd:Ls.all (·.all gI)=true)(hf:∀x,ch (oL (Ls.map (·.map rV)) x)=f x)(h:SweepPost ch Ls w e w'):Jp f k w e w':=by
 refine⟨h.1,?_⟩
 rcases h.2 with⟨h1,h2⟩|⟨h1,E,vs,h2,h3,h4,h5,h6⟩
 ·exact absurd hsd h1
 ·obtain⟨o,n,c,rfl⟩:=yM h5;have hT:=Zh ch Ls hsz h1 E h2 h3;have hn:=abN ch Ls E h2 h3;refine⟨o,n,c,_,h4,h6,⟨hT.sound,(hT.nf hl2).small,?_⟩,abO hT hl2,fun x=>?_⟩
  ·have:=Zi (eP (fun b=>ch (having Ls.length b)) (fun _=>0) false (E.map aP));omega
  ·rw[Oa _ hT.up];have hp:=Zd ch h0 (Ls.map (·.map rV)) (E.map aP) (by rw[<-Ny];exact h2.map _) h3 x;rw[List.length_map]at hp;rw[hp,hf]
theorem abP(sl:Value)(L:List Sp)(k:Nat)(w:World)(h:SpS w sl L)(hL:LOk L k)(hk:k<=1048576):Calls prog 105 #[sl] w (Jp (eu L) k w):=by
 have h1:=Nat.le_trans hL.ln hk;refine(XD sl L w h h1 hL.sm).mono ?_;intro e w' hp;refine QK (by decide) k (by simp) ?_ (by intro l hl;simp at hl;subst hl;exact⟨h1,hL.sm⟩) (by simp[hL.sd]) (fun x=>Ze L x) hp;have h3:=yD 0 L;have h4:=hL.ln;show(L.flatMap (dL 0)++[]).length<=_;rw[List.append_nil];omega
theorem abQ(sl sm:Value)(L M:List Sp)(j k:Nat)(w:World)(h:SpS w sl L)(h':SpS w sm M)(hL:LOk L j)(hM:LOk M k)(hj:j<=1048576)(hk:k<=1048576):Calls prog 154 #[sl,sm] w (Jp (fun x=>eu L x && eu M x) (j+k) w):=by
 have h1:=Nat.le_trans hL.ln hj;have h2:=Nat.le_trans hM.ln hk;refine(XE sl sm L M w h h' h1 hL.sm h2 hM.sm).mono ?_;intro e w' hp;refine QK (by decide) (j+k) (by simp) ?_ (by intro l hl;simp at hl;rcases hl with rfl|rfl<;>first|exact⟨h1,hL.sm⟩|exact⟨h2,hM.sm⟩) (by simp[hL.sd,hM.sd]) (fun x=>Zf L M x) hp;have h3:=yD 0 L;have h5:=yD 1 M;have h4:=hL.ln;have h6:=hM.ln;show(L.flatMap (dL 0)++(M.flatMap (dL 1)++[])).length<=_;rw[List.append_nil,List.length_append];omega
def Jq(b:Nat)(s:ByteArray)(E:Int)(J:Nat)(g:Sg)(w:World)(e:Ending)(w':World):Prop :=
 ∃(o:Option Addr) (n c:Nat),e=.returned (.tuple #[.slice o n c,.int .i64 E])/\RS b s J w'/\w.grownBy w' (some b)/\(E=0->OS w' w.heap.size (.slice o n c) [jE g])
def zC(l:List UInt8)(i:Nat):Int:=if aj l i=i then 2 else(ay l (aj l i)).1
def zD(l:List UInt8)(i:Nat):Nat:=if aj l i=i then i else(ay l (aj l i)).2.1
theorem abR(b:Nat)(s:ByteArray)(i:Nat)(p:Pa)(y1 y2 y3:Int)(Q:ByteArray)(m:Int)(hp:uT y1 y2 y3 Q m=jT p)(w:World)(hi:i<=s.size)(h:RS b s i w)(hs:s.size<=200) :
  Calls prog 153 #[.pointer (some ⟨b,0,none⟩),.agg #[.int .i64 y1,.int .i64 y2,.int .i64 y3,.string Q,.string ⟨#[]⟩,.int .i64 m]] w (Jq b s (zC s.data.toList i) (zD s.data.toList i) (uS p (ay s.data.toList (aj s.data.toList i)).2.2) w):=by
 have CB:=ae (fun w (h:RS b s i w)=>Ip b s i w hi h (by omega));have hsk:aj s.data.toList i<=s.size:=by have:=oC s.data.toList i (by simpa using hi);simp at this;exact this
 have hge:=pz s.data.toList i;have CP:=ae (fun w (h:RS b s (aj s.data.toList i) w)=>Pq b s _ w hsk h (by omega));have hpl:=Iu s.data.toList (aj s.data.toList i);have CW:=ae (fun(h0:(ay s.data.toList (aj s.data.toList i)).1=0)=>ZC p _ (Es s.data.toList _ (by simpa using hsk) h0) (by simp at hpl;omega));have qK:Hd (b<w.heap.size):=by obtain⟨t,h⟩:=h;exact(aA h)
 unfold zC zD;obtain⟨K,hK⟩:=zN (aj s.data.toList i);rw[hK]at CB CP CW hge ⊢;obtain⟨E,J,q,hR⟩:∃E J q,ay s.data.toList K=(E,J,q):=⟨_,_,_,rfl⟩;rw[hR]at CP CW ⊢;simp only[]at CW ⊢;have HI:=ae h;have QL:=ae hp;clear hK hR h hi hs hsk hpl hp
 by_cases hz:K=i
 ·rw[if_pos hz,if_pos hz];rw[hz,decide_eq_false (Nat.lt_irrefl i)]at CB;clear hz hge CP CW;go_enter func153,ntmps153;go_wp2_with (go_at_call 129;refine(CB.o _ (HI.o.grow (au (ak w none) _))).mono ?_);rintro e w1 ⟨rfl,hr,hg⟩;have HF:Hd (RS b s i w1/\w.grownBy w1 (some b)):=⟨hr,ah (bH (au (ak w none) _) _) hg⟩;clear hr hg;go_wp2;exact bodyPost_ret (results_tmp2 (t:=4) (u:=5) rfl _ _ _) rfl ⟨_,_,_,rfl,HF.o.1,HF.o.2,fun h=>absurd h (by decide)⟩
 ·rw[if_neg hz,if_neg hz];rw[decide_eq_true (show i<K by omega)]at CB;clear hz hge;go_enter func153,ntmps153;go_wp2_with (go_at_call 129;refine(CB.o _ (HI.o.grow (au (ak w none) _))).mono ?_);rintro e w1 ⟨rfl,hr,hg⟩;obtain⟨A,hA⟩:=zN (w.heap.size);have aC:Hd (PB A y1 y2 y3 Q m w1):=by
   refine PB.growb (w:=w.alloc (.cells #[.int .i64 y1,.int .i64 y2,.int .i64 y3,.string Q,.string ⟨#[]⟩,.int .i64 m] 227)) ?_ hg (by have:=qK.o;omega);unfold PB;rw[<-hA];exact heap_alloc_new w _
  have HG:=ae (ah (bH (au (ak w none) _) _) hg);have wI:Hd (w.heap.size<=A/\A≠b):=⟨Nat.le_of_eq hA,by have:=qK.o;omega⟩;have HR1:=ae hr
  try rw[hA]
  clear hr hg hA;go_wp2_with (go_at_call 174;refine(CP.o _ HR1.o).mono ?_);rintro e w2 ⟨x1,x2,x3,P,n,rfl,hr,hg,hok⟩;replace HR1:Hd (RS b s J w2):=hr;replace HG:=ae (ah HG.o hg);replace aC:=ae (aC.o.growb hg wI.o.2);have dH:Hd (E=0->uT x1 x2 x3 P n=jT q):=hok;clear hr hg hok
  cases hz:(E == 0) with
  | false =>
   have jP:Hd (E≠0):=by show E≠0;simpa using hz
   go_wp2;exact bodyPost_ret (results_tmp2 (t:=4) (u:=5) rfl _ _ _) rfl ⟨_,_,_,rfl,HR1.o.grow (au (ak w2 none) _),ah HG.o (bH (au (ak w2 none) _) _),fun h=>absurd h jP.o⟩
  | true =>
   have hE:E=0:=by simpa using hz
   subst hE;have hc:=CW.o rfl;rw[<-dH.o rfl,<-QL.o]at hc;obtain⟨s1,hs1⟩:=zN (jE (uS p q));have CX:Hd (∀w,Calls prog 175 #[.agg #[.int .i64 y1,.int .i64 y2,.int .i64 y3,.string Q,.string ⟨#[]⟩,.int .i64 m],.agg #[.int .i64 x1,.int .i64 x2,.int .i64 x3,.string P,.string ⟨#[]⟩,.int .i64 n]] w fun e w'=>e=.returned (.agg #[.int .i64 s1.f1,.int .i64 s1.f2,.int .i64 s1.f3,.string s1.f4,.string s1.f5,.int .i64 s1.t1,.int .i64 s1.t2,.int .i64 s1.t3,.string s1.t4,.string s1.t5,.bool s1.o])/\w.grownBy w' none):=fun w=>by rw[<-hs1];exact hc w
   have vG:=ae hs1;clear hc hs1 CW dH QL CB CP hz;obtain⟨C,hC⟩:=zN (w2.heap.size);obtain⟨W,hW⟩:=zN (w2.alloc (.cells #[.int .i64 x1,.int .i64 x2,.int .i64 x3,.string P,.string ⟨#[]⟩,.int .i64 n] 227));have hgW:w2.grownBy W none:=by rw[<-hW];exact au (ak w2 none) _
   have aG:Hd (PB C x1 x2 x3 P n W):=by
    show PB C x1 x2 x3 P n W;unfold PB;rw[<-hW,<-hC];exact heap_alloc_new w2 _
   replace aC:=ae (aC.o.grow hgW);replace HG:=ae (ah HG.o (bH hgW _));replace HR1:=ae (HR1.o.grow hgW);obtain⟨a0,a1,a2,a3,a4,a5⟩:=aC.o.cells;obtain⟨c0,c1,c2,c3,c4,c5⟩:=aG.o.cells;clear hgW;go_wp2_with (first|(go_at_call 175;refine(CX.o _).mono ?_));rintro e w3 ⟨rfl,hg⟩;have dJ:=ae (ah HG.o (bH hg _));have HR3:=ae (HR1.o.grow hg);clear hW hC a0 a1 a2 a3 a4 a5 c0 c1 c2 c3 c4 c5;clear hg;go_wp2;refine bodyPost_ret (results_tmp2 (t:=4) (u:=5) rfl _ _ _) rfl ⟨_,_,_,rfl,HR3.o.grow (au (ak w3 none) _),ah dJ.o (bH (au (ak w3 none) _) _),fun _=>?_⟩;rw[vG.o];exact OS.one dJ.o.size (heap_alloc_new w3 _)
end Go.Proofs.YtapodndfpecglaaGreatDoor
