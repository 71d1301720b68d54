import Derived.Test.YteciokcdpadmpaaGreatDoorS14
set_option linter.all false
set_option maxRecDepth 100000
set_option maxHeartbeats 0
open Go.Proofs.Tryz
namespace Go.Proofs.YteciokcdpadmpaaGreatDoor
open Go.RowKit
theorem QI(c:UInt8)(w:World):Calls prog 162 #[.int .u8 (c.toNat:Int)] w fun e w'=>e=.returned (.bool (isSp c))/\w'=w:=by
 go_enter func162,ntmps162;go_wp2
 all_goals go_ret
 all_goals (refine⟨aJ ?_,rfl⟩;rw[Bool.eq_iff_iff];unfold isSp;simp[<-UInt8.toNat_inj];try omega)
theorem aaf(b:Nat)(s:ByteArray)(i:Nat)(w:World)(hi:i<=s.size)(h:RS b s i w)(hs:s.size<2 ^ 62) :
  Calls prog 153 #[.pointer (some ⟨b,0,none⟩),.func (.func 162) #[] #[]] w fun e w'=>e=.returned (.string ⟨(aO s.data.toList i (runN isSp s.data.toList i)).toArray⟩)/\RS b s (i+runN isSp s.data.toList i) w'/\w.grownBy w' (some b):=by
 have h0:=h.c0;have h1:=h.c1;have HR:=ae h;obtain⟨N,hN⟩:=zN (i+runN isSp s.data.toList i);have HN:Hd (N<=s.size):=by
  show N<=s.size;have:=lM isSp s.data.toList i (by simpa using hi);simp at this;omega
 have HA:Hd (∀j,i<=j->(hj:j<s.size)->j<N->isSp s[j]=true):=by
  show ∀j,i<=j->(hj:j<s.size)->j<N->isSp s[j]=true;intro j h1 hj h2;obtain⟨g1,g2⟩:=yY isSp s.data.toList i (j-i) (by omega);have e:i+(j-i)=j:=by omega
  simp only[e]at g2;exact g2
 have HS:Hd (∀hj:N<s.size,isSp s[N]=false):=by
  show ∀hj:N<s.size,isSp s[N]=false;intro hj;have:=sK isSp s.data.toList i (by rw[hN];simpa using hj);simp only[hN]at this;exact this
 have HT:Hd (runN isSp s.data.toList i=N-i/\i<=N):=⟨by omega,by omega⟩;have HI:=ae hi;rw[show runN isSp s.data.toList i=N-i by omega];obtain⟨X,hX⟩:∃X:List UInt8,X=aO s.data.toList i (N-i):=⟨_,rfl⟩;have hsl:∀wx,(Instr.slice 9 (.string s) (some (.int .i64 (i:Int))) (some (.int .i64 (N:Int))) none).run prog wx=.ok (.string ⟨X.toArray⟩) wx:=fun wx=>by rw[hX];exact qV s i N (by omega) HN.o wx
 rw[<-hX,show i+(N-i)=N by omega];clear h hN hi hX;go_enter func153,ntmps153;go_wp2;go_loopw [] (fun wr=>∃j:Nat,i<=j/\j<=N/\RS b s j wr/\w.grownBy wr (some b)) (fun wr=>s.size-placeOf b wr)
 case atStart=>exact⟨i,Nat.le_refl _,HT.o.2,HR.o,ak _ _⟩
 case round =>
  obtain⟨j,hij,hjn,hrs,hgb⟩:=hrel;have d0:=hrs.c0;have d1:=hrs.c1;have df:=hrs.f1;have az:=ae hrs;have bn:=ae hgb;have hns:=HN.o;clear hrs hgb h0 h1
  by_cases hlt:j<N
  ·have hjs:j<s.size:=by omega
   have hD:=HA.o j hij hjs hlt;have HK:Hd (i<=j/\j<N):=⟨hij,hlt⟩;clear hlt hjn hns hij;have hlt2:(j:Int)<(s.size:Int):=by omega
   go_wp2;go_quiet (first|(go_at_call 162;exact Calls.quiet_of_same (QI _ _)));go_wp2;go_roundw
   case rel =>
    have:=HK.o;exact⟨j+1,by omega,by omega,(az.o.drew _).set (j+1),aW (aG bn.o _) _ _⟩
   case measure =>
    have e1:=az.o.place;have e2:=((az.o.drew nq).set (j+1)).place;rw[e1];exact Nat.lt_of_le_of_lt (Nat.le_of_eq (congrArg (s.size - ·) e2)) (by omega)
  ·have hjN:j=N:=by omega
   subst hjN
   by_cases hjs:j<s.size
   ·have hD:=HS.o hjs;have hlt2:(j:Int)<(s.size:Int):=by omega
    clear hlt hjn hns hij;go_wp2;go_quiet (first|(go_at_call 162;exact Calls.quiet_of_same (QI _ _)));go_wp2;obtain⟨W,hW⟩:=zN (wr.drewN nq);have e0:W.cell? ⟨b,0,none⟩=some (.string s):=by rw[<-hW];exact d0
    have e1:W.cell? ⟨b,1,none⟩=some (.int .i64 (j:Int)):=by rw[<-hW];exact d1
    have HW:Hd (RS b s j W/\w.grownBy W (some b)):=by
     show RS b s j W/\w.grownBy W (some b);rw[<-hW];exact⟨az.o.drew _,aG bn.o _⟩
    rw[hW];clear hW d0 d1 df az bn;go_quiet (fail);go_wp2;go_ret;exact⟨rfl,HW.o.1.drew _,aG HW.o.2 _⟩
   ·have hd2:decide ((j:Int)<(s.size:Int))=false:=by simp;omega
    clear hlt hjn hns hij;go_wp2;go_quiet (fail);go_wp2;obtain⟨W,hW⟩:=zN (wr.drewN nq);have e0:W.cell? ⟨b,0,none⟩=some (.string s):=by rw[<-hW];exact d0
    have e1:W.cell? ⟨b,1,none⟩=some (.int .i64 (j:Int)):=by rw[<-hW];exact d1
    have HW:Hd (RS b s j W/\w.grownBy W (some b)):=by
     show RS b s j W/\w.grownBy W (some b);rw[<-hW];exact⟨az.o.drew _,aG bn.o _⟩
    rw[hW];clear hW d0 d1 df az bn;go_quiet (fail);go_wp2;go_ret;exact⟨rfl,HW.o.1.drew _,aG HW.o.2 _⟩
theorem QJ{l:List UInt8}{i:Nat}(h:l[i]?=some 42):eu l i=true:=by unfold eu;rw[decide_eq_true h];rfl
theorem QK{l:List UInt8}{i:Nat}(h:l[i]?=some 120):eu l i=true:=by unfold eu;rw[h];rfl
theorem QL{l:List UInt8}{i:Nat}(h:l[i]?=some 88):eu l i=true:=by unfold eu;rw[h];rfl
theorem QM{l:List UInt8}{i:Nat}(h0:¬l[i]?=some 42)(h1:¬l[i]?=some 120)(h2:¬l[i]?=some 88):eu l i=false:=by unfold eu;rw[decide_eq_false h0,decide_eq_false h1,decide_eq_false h2];rfl
theorem JU(b:Nat)(s:ByteArray)(i:Nat)(w:World)(hi:i<=s.size)(h:RS b s i w)(hs:s.size<2 ^ 62) :
  Calls prog 132 #[.pointer (some ⟨b,0,none⟩)] w fun e w'=>e=.returned (.bool (decide (i<au s.data.toList i)))/\RS b s (au s.data.toList i) w'/\w.grownBy w' (some b):=by
 have CR:=ae (aaf b s i w hi h hs);have hsl:s.data.toList.length=s.size:=by simp
 have hle:i+runN isSp s.data.toList i<=s.size:=by have:=lM isSp s.data.toList i (by rw[hsl];exact hi);rw[hsl]at this;exact this
 have hln:=nM s.data.toList i (runN isSp s.data.toList i) (by rw[hsl];exact hle);unfold au;obtain⟨k,hk⟩:=zN (runN isSp s.data.toList i);rw[hk]at CR hln ⊢;obtain⟨X,hX⟩:∃X:ByteArray,X=⟨(aO s.data.toList i k).toArray⟩:=⟨_,rfl⟩;rw[<-hX]at CR;have ik:X.size=k:=by rw[hX];show(aO s.data.toList i k).toArray.size=k;simpa using hln
 clear hk hX hln hsl hle h hi
 by_cases hk0:k=0
 ·have e1:=sZ (ik.trans hk0);have HZ:Hd (decide (i<i+k)=false):=by show _=_;rw[hk0];simp
  clear hk0 ik;go_enter func132,ntmps132;go_wp2_with (go_at_call 153;refine CR.o.mono ?_);rintro e w1 ⟨rfl,hr1,hg1⟩;have HF:Hd (RS b s (i+k) w1/\w.grownBy w1 (some b)):=⟨hr1,hg1⟩;clear hr1 hg1;go_wp2;go_ret;exact⟨aJ HZ.o.symm,HF.o.1,HF.o.2⟩
 ·have e1:=mg (fun h=>hk0 (ik.symm.trans h));have HZ:Hd (decide (i<i+k)=true):=by show _=_;simp;omega
  clear hk0 ik;go_enter func132,ntmps132;go_wp2_with (go_at_call 153;refine CR.o.mono ?_);rintro e w1 ⟨rfl,hr1,hg1⟩;have HF:Hd (RS b s (i+k) w1/\w.grownBy w1 (some b)):=⟨hr1,hg1⟩;clear hr1 hg1;go_wp2;go_ret;exact⟨aJ HZ.o.symm,HF.o.1,HF.o.2⟩
theorem aag(b:Nat)(s:ByteArray)(i:Nat)(w:World)(hi:i<=s.size)(h:RS b s i w)(hs:s.size<2 ^ 62) :
  Calls prog 201 #[.pointer (some ⟨b,0,none⟩)] w fun e w'=>e=.returned (.bool (eu s.data.toList i))/\RS b s (if eu s.data.toList i=true then i+1 else i) w'/\w.grownBy w' (some b):=by
 by_cases q0:s.data.toList[i]?=some 42
 ·have C0:=ae (fun w (h:RS b s i w)=>qZ b s i 42 w q0 h hs);have HZ:=ae (QJ q0);rw[HZ.o];have HR:=ae h;have HG:Hd (w.grownBy w (some b)):=ak _ _;clear h hi hs q0;go_enter func201,ntmps201;go_wp2_with (go_at_call 128;refine(C0.o _ HR.o).mono ?_);rintro e w1 ⟨rfl,hr,hg⟩;replace HR:=ae hr;replace HG:=ae (ag HG.o hg);clear hr hg;go_wp2;go_ret;exact⟨rfl,HR.o,HG.o⟩
 ·by_cases q1:s.data.toList[i]?=some 120
  ·have C0:=ae (fun w (h:RS b s i w)=>nO b s i 42 w hi q0 h hs);have C1:=ae (fun w (h:RS b s i w)=>qZ b s i 120 w q1 h hs);have HZ:=ae (QK q1);rw[HZ.o];have HR:=ae h;have HG:Hd (w.grownBy w (some b)):=ak _ _;clear h hi hs q0 q1;go_enter func201,ntmps201;go_wp2_with (go_at_call 128;refine(C0.o _ HR.o).mono ?_);rintro e w1 ⟨rfl,hr,hg⟩;replace HR:=ae hr;replace HG:=ae (ag HG.o hg);clear hr hg;go_wp2_with (go_at_call 128;refine(C1.o _ HR.o).mono ?_);rintro e w2 ⟨rfl,hr,hg⟩;replace HR:=ae hr;replace HG:=ae (ag HG.o hg);clear hr hg;go_wp2;go_ret;exact⟨rfl,HR.o,HG.o⟩
  ·by_cases q2:s.data.toList[i]?=some 88
   ·have C0:=ae (fun w (h:RS b s i w)=>nO b s i 42 w hi q0 h hs);have C1:=ae (fun w (h:RS b s i w)=>nO b s i 120 w hi q1 h hs);have C2:=ae (fun w (h:RS b s i w)=>qZ b s i 88 w q2 h hs);have HZ:=ae (QL q2);rw[HZ.o];have HR:=ae h;have HG:Hd (w.grownBy w (some b)):=ak _ _;clear h hi hs q0 q1 q2;go_enter func201,ntmps201;go_wp2_with (go_at_call 128;refine(C0.o _ HR.o).mono ?_);rintro e w1 ⟨rfl,hr,hg⟩;replace HR:=ae hr;replace HG:=ae (ag HG.o hg);clear hr hg;go_wp2_with (go_at_call 128;refine(C1.o _ HR.o).mono ?_);rintro e w2 ⟨rfl,hr,hg⟩;replace HR:=ae hr;replace HG:=ae (ag HG.o hg);clear hr hg;go_wp2_with (go_at_call 128;refine(C2.o _ HR.o).mono ?_);rintro e w3 ⟨rfl,hr,hg⟩;replace HR:=ae hr;replace HG:=ae (ag HG.o hg);clear hr hg;go_wp2;go_ret;exact⟨rfl,HR.o,HG.o⟩
   ·have C0:=ae (fun w (h:RS b s i w)=>nO b s i 42 w hi q0 h hs);have C1:=ae (fun w (h:RS b s i w)=>nO b s i 120 w hi q1 h hs);have C2:=ae (fun w (h:RS b s i w)=>nO b s i 88 w hi q2 h hs);have HZ:=ae (QM q0 q1 q2);rw[HZ.o];have HR:=ae h;have HG:Hd (w.grownBy w (some b)):=ak _ _;clear h hi hs q0 q1 q2;go_enter func201,ntmps201;go_wp2_with (go_at_call 128;refine(C0.o _ HR.o).mono ?_);rintro e w1 ⟨rfl,hr,hg⟩;replace HR:=ae hr;replace HG:=ae (ag HG.o hg);clear hr hg;go_wp2_with (go_at_call 128;refine(C1.o _ HR.o).mono ?_);rintro e w2 ⟨rfl,hr,hg⟩;replace HR:=ae hr;replace HG:=ae (ag HG.o hg);clear hr hg;go_wp2_with (go_at_call 128;refine(C2.o _ HR.o).mono ?_);rintro e w3 ⟨rfl,hr,hg⟩;replace HR:=ae hr;replace HG:=ae (ag HG.o hg);clear hr hg;go_wp2;go_ret;exact⟨rfl,HR.o,HG.o⟩
open Go.RowKit
theorem PB.f{A:Nat}{a b c:Int}{P:ByteArray}{n:Int}{w:World}(h:PB A a b c P n w)(o:Nat):w.frozen? ⟨A,o,none⟩=false:=Lib.frozen_of_heap h o
theorem PB.growb{A:Nat}{a b c:Int}{P:ByteArray}{n:Int}{w w':World}{q:Nat}(h:PB A a b c P n w)(hg:w.grownBy w' (some q))(hn:A≠q):PB A a b c P n w':=by
 unfold PB at h ⊢;rw[hg.block A ((aB h)) (by simpa using hn)];exact h
theorem PB.other{A V:Nat}{a b c:Int}{P:ByteArray}{n:Int}{w:World}(h:PB A a b c P n w)(hn:A≠V)(o:Nat)(x:Value):PB A a b c P n (w.setCell ⟨V,o,none⟩ x):=by
 unfold PB at h ⊢;rw[heap_setCell_other w _ A x (by simpa using hn)];exact h
theorem PB.set0{A:Nat}{a b c:Int}{P:ByteArray}{n:Int}{w:World}(h:PB A a b c P n w)(y:Int):PB A y b c P n (w.setCell ⟨A,0,none⟩ (.int .i64 y)):=by
 unfold PB at h ⊢;simp[World.setCell,Array.getElem?_modify,h]
theorem PB.set1{A:Nat}{a b c:Int}{P:ByteArray}{n:Int}{w:World}(h:PB A a b c P n w)(y:Int):PB A a y c P n (w.setCell ⟨A,1,none⟩ (.int .i64 y)):=by
 unfold PB at h ⊢;simp[World.setCell,Array.getElem?_modify,h]
theorem PB.set2{A:Nat}{a b c:Int}{P:ByteArray}{n:Int}{w:World}(h:PB A a b c P n w)(y:Int):PB A a b y P n (w.setCell ⟨A,2,none⟩ (.int .i64 y)):=by
 unfold PB at h ⊢;simp[World.setCell,Array.getElem?_modify,h]
theorem PB.set3{A:Nat}{a b c:Int}{P:ByteArray}{n:Int}{w:World}(h:PB A a b c P n w)(y:ByteArray):PB A a b c y n (w.setCell ⟨A,3,none⟩ (.string y)):=by
 unfold PB at h ⊢;simp[World.setCell,Array.getElem?_modify,h]
theorem PB.set5{A:Nat}{a b c:Int}{P:ByteArray}{n:Int}{w:World}(h:PB A a b c P n w)(y:Int):PB A a b c P y (w.setCell ⟨A,5,none⟩ (.int .i64 y)):=by
 unfold PB at h ⊢;simp[World.setCell,Array.getElem?_modify,h]
def zV(w:World)(A:Nat)(y1 y2 y3:Int)(x4:ByteArray)(n:Int):World:=(((((w.setCell ⟨A,0,none⟩ (.int .i64 y1)).setCell ⟨A,1,none⟩ (.int .i64 y2)).setCell ⟨A,2,none⟩ (.int .i64 y3)).setCell ⟨A,3,none⟩ (.string x4)).setCell ⟨A,4,none⟩ (.string ⟨#[]⟩)).setCell ⟨A,5,none⟩ (.int .i64 n)
theorem aah{w:World}{A:Nat}{z1 z2 z3:Int}{z4:ByteArray}{m:Int}(h:PB A z1 z2 z3 z4 m w)(y1 y2 y3:Int)(x4:ByteArray)(n:Int):PB A y1 y2 y3 x4 n (zV w A y1 y2 y3 x4 n):=by
 unfold PB at h ⊢;simp[zV,World.setCell,Array.getElem?_modify,h]
theorem aai{b A:Nat}{s:ByteArray}{j:Nat}{w:World}(h:RS b s j w)(hn:b≠A)(y1 y2 y3:Int)(x4:ByteArray)(n:Int):RS b s j (zV w A y1 y2 y3 x4 n):=(((((h.other hn _ _).other hn _ _).other hn _ _).other hn _ _).other hn _ _).other hn _ _
theorem aaj{b A:Nat}{w W:World}(h:w.grownBy W (some b))(hA:w.heap.size<=A)(y1 y2 y3:Int)(x4:ByteArray)(n:Int):w.grownBy (zV W A y1 y2 y3 x4 n) (some b):=bu (bu (bu (bu (bu (bu h hA _ _) hA _ _) hA _ _) hA _ _) hA _ _) hA _ _
def ww(x1 x2 x3:Int)(P:ByteArray)(n:Int):Value:=.agg #[.int .i64 x1,.int .i64 x2,.int .i64 x3,.string P,.string ⟨#[]⟩,.int .i64 n]
def QN(b:Nat)(s:ByteArray)(R:Int × Nat × Pa)(w:World)(e:Ending)(w':World):Prop :=
 ∃(x1 x2 x3:Int) (P:ByteArray) (n:Int),e=.returned (.tuple #[.agg #[.int .i64 x1,.int .i64 x2,.int .i64 x3,.string P,.string ⟨#[]⟩,.int .i64 n],.int .i64 R.1])/\RS b s R.2.1 w'/\w.grownBy w' (some b)/\(R.1=0->ww x1 x2 x3 P n=kQ R.2.2)
theorem QO(b:Nat)(s:ByteArray)(i:Nat)(w:World)(hi:i<=s.size)(h:RS b s i w)(hs:s.size<=281474976710656) :
  Calls prog 178 #[.pointer (some ⟨b,0,none⟩)] w (QN b s (ay s.data.toList i) w):=by
 obtain⟨l,hl⟩:∃l,l=s.data.toList:=⟨_,rfl⟩;have hll:l.length=s.size:=by rw[hl];simp
 have bY:=ae hll;obtain⟨R,hR⟩:=zN (ay l i);rw[<-hl,hR];have HR:Hd (R=if eu l i=true then(0,i+1,pa0) else if(rdNum l i).1=0 then jT l (rdNum l i).2.2 (rdNum l i).2.1 else((rdNum l i).1,(rdNum l i).2.2,pa0)):=hR.symm;have CN:Hd (∀i w,i<=s.size->RS b s i w->Calls prog 129 #[.pointer (some ⟨b,0,none⟩)] w fun e w'=>e=.returned (.tuple #[.int .i64 (rdNum l i).2.1,.int .i64 (rdNum l i).1])/\RS b s (rdNum l i).2.2 w'/\w.grownBy w' (some b)):=fun i w hi h=>by rw[hl];exact Ou b s i w hi h (by omega)
 have TY:=ae (fun i w (hc:l[i]?=some 46) (h:RS b s i w)=>qZ b s i 46 w (by rw[<-hl];exact hc) h (by omega));have TN:Hd (∀i w,i<=s.size->¬l[i]?=some 46->RS b s i w->Calls prog 128 #[.pointer (some ⟨b,0,none⟩),.string ⟨#[46]⟩] w fun e w'=>e=.returned (.bool false)/\RS b s i w'/\w.grownBy w' (some b)):=fun i w hi hc h=>nO b s i 46 w hi (by rw[<-hl];exact hc) h (by omega)
 have CW:Hd (∀i w,i<=s.size->RS b s i w->Calls prog 201 #[.pointer (some ⟨b,0,none⟩)] w fun e w'=>e=.returned (.bool (eu l i))/\RS b s (if eu l i=true then i+1 else i) w'/\w.grownBy w' (some b)):=fun i w hi h=>by rw[hl];exact aag b s i w hi h (by omega)
 have CT:Hd (∀i w,i<=s.size->RS b s i w->Calls prog 100 #[.pointer (some ⟨b,0,none⟩)] w fun e w'=>e=.returned (.tuple #[.string ⟨(aN l i).2.2.1.toArray⟩,.string ⟨(aN l i).2.2.2.toArray⟩,.int .i64 (aN l i).1])/\RS b s (aN l i).2.1 w'/\w.grownBy w' (some b)):=fun i w hi h=>by rw[hl];exact O6 b s i w hi h hs
 have CL:=ae zl;have o5:Hd (∀i,i<=s.size->(rdNum l i).2.2<=s.size):=fun i hi=>by have:=O3 l i (by rw[hll];exact hi);rw[hll]at this;exact this
 have vS:Hd (∀i,l[i]?=some 46->i+1<=s.size):=fun i hc=>by have:=kR hc;rw[hll]at this;exact this
 have HI:=ae h;have lU:=ae hi;have rW:Hd (b<w.heap.size):=by obtain⟨t,h⟩:=h;exact(aB h)
 clear hl hll hR h hs hi;go_enter func178,ntmps178;go_wp2_with (go_at_call 158;refine(CL.o _).mono ?_);rintro e w1 ⟨rfl,hg⟩;obtain⟨A,hA⟩:=zN (w.heap.size);have uo:Hd (PB A 0 0 0 ⟨#[]⟩ 0 w1):=by
  refine PB.grow ?_ hg;unfold PB;rw[<-hA];exact heap_alloc_new w _
 have HG:=ae (ag (aj (ak w none) _) hg);have HA:Hd (w.heap.size<=A/\b<A/\A<w1.heap.size):=⟨Nat.le_of_eq hA,by rw[<-hA];exact rW.o,(aB uo.o)⟩
 try rw[hA]
 clear hA hg;obtain⟨C,hC⟩:=zN (w1.heap.size);go_wp2_with (go_at_call 200;refine(vw _ _ (by simp;omega)).mono ?_);rintro e w2 ⟨rfl,hg⟩;have aH:Hd (PB C 0 0 0 ⟨#[48]⟩ 0 w2):=by
  refine PB.grow ?_ hg;unfold PB;rw[<-hC];exact heap_alloc_new w1 _
 replace uo:=ae ((uo.o.grow (aj (ak w1 none) _)).grow hg);replace HG:=ae (ag HG.o (ag (aj (ak w1 none) _) hg));replace HA:Hd (w.heap.size<=A/\b<A/\A<C):=⟨HA.o.1,HA.o.2.1,by rw[<-hC];exact HA.o.2.2⟩;replace HI:=ae (HI.o.grow HG.o)
 try rw[hC]
 clear hC hg;have ai:Hd (b≠C/\b≠A/\C≠A/\A≠C/\C≠b/\A≠b):=by have:=HA.o;refine⟨?_,?_,?_,?_,?_,?_⟩<;>omega
 have qF:Hd (w.heap.size<=C/\w.heap.size<=A):=by have:=HA.o;exact⟨by omega,this.1⟩
 have END:Hd (∀(W:World) (j:Nat) (y1 y2 y3:Int) (P:ByteArray) (n E:Int),RS b s j W->PB A 0 0 0 ⟨#[]⟩ 0 W->w.grownBy W (some b)->E=R.1->j=R.2.1->(E=0->ww y1 y2 y3 P n=kQ R.2.2)->PB A y1 y2 y3 P n (zV W A y1 y2 y3 P n)/\QN b s R w (.returned (.tuple #[.agg #[.int .i64 y1,.int .i64 y2,.int .i64 y3,.string P,.string ⟨#[]⟩,.int .i64 n],.int .i64 E])) (zV W A y1 y2 y3 P n)):=by
  intro W j y1 y2 y3 P n E h1 h2 h3 h4 h5 h6;subst h4 h5;exact⟨aah h2 _ _ _ _ _,y1,y2,y3,P,n,rfl,aai h1 ai.o.2.1 _ _ _ _ _,aaj h3 qF.o.2 _ _ _ _ _,h6⟩
 go_wp2;go_loopw [13] (fun vi wr=>∃(k j:Nat) (x1 x2 x3 n:Int),vi=.int .i64 k/\j<=s.size/\RS b s j wr/\PB C x1 x2 x3 ⟨#[48]⟩ n wr/\PB A 0 0 0 ⟨#[]⟩ 0 wr/\w.grownBy wr (some b)/\((k=0/\j=i/\x1=0/\x2=0/\x3=0/\n=0)\/(k=1/\R=jT l j x1/\x2=0/\x3=0/\n=1)\/(k=2/\R=jS l j x1 x2/\x3=0/\n=2)\/(k=3/\R=pa3 l j x1 x2 x3/\n=3))) (fun vi _=>3-(intOf vi).toNat)
 case atStart=>exact⟨0,i,0,0,0,0,rfl,lU.o,HI.o,aH.o,uo.o,bH HG.o _,Or.inl ⟨rfl,rfl,rfl,rfl,rfl,rfl⟩⟩
 case round =>
  obtain⟨k,j,x1,x2,x3,n,rfl,hj,hrs,hpc,hpa,hg,hcase⟩:=hrel;clear HI aH uo HG;have HJ:=ae hj;have az:=ae hrs;have aH:=ae hpc;have aF:=ae hpa;have HG:=ae hg;clear hj hrs hpc hpa hg
  rcases hcase with⟨rfl,rfl,rfl,rfl,rfl,rfl⟩|⟨rfl,hrk,rfl,rfl,rfl⟩|⟨rfl,hrk,rfl,rfl⟩|⟨rfl,hrk,rfl⟩
  ·have ix:=vC C wr;have iw:=ae HJ.o;have HRk:=ae HR.o;clear HR
   cases hw:eu l j with
   | true =>
    have HZ:Hd (R=(0,j+1,⟨0,0,0,0,[]⟩)):=by show R=_;rw[HRk.o,if_pos hw];rfl
    have jc:Hd (∀w,RS b s (j) w->Calls prog 201 #[.pointer (some ⟨b,0,none⟩)] w fun e w'=>e=.returned (.bool true)/\RS b s (j+1) w'/\w.grownBy w' (some b)):=fun w h=>by have:=CW.o (j) w iw.o h;rw[hw]at this;exact this
    clear hw;go_wp2_with (go_at_call 201;refine(jc.o _ az.o).mono ?_);rintro e u1 ⟨rfl,hr,hg⟩;replace az:=ae hr;replace aH:=ae (aH.o.growb hg ai.o.2.2.2.2.1);replace aF:=ae (aF.o.growb hg ai.o.2.2.2.2.2);replace HG:=ae (ag HG.o hg);clear hr hg;obtain⟨a0,a1,a2,a3,a4,a5⟩:=aF.o.cells;have af:=aF.o.f;obtain⟨c0,c1,c2,c3,c4,c5⟩:=aH.o.cells;have cf:=aH.o.f;obtain⟨n1,n2,n3,n4,n5,n6⟩:=ai.o;go_wp2;obtain⟨hrow,hpost⟩:=END.o u1 (j+1) 0 0 0 ⟨#[48]⟩ 0 0 az.o aF.o HG.o (by rw[HZ.o]) (by rw[HZ.o]) (fun _=>by rw[HZ.o];rfl);exact bodyPost_ret (jA (p:=2) (u:=3) rfl _ _ A _ _ (0,0) _ rfl hrow underlying232 rfl (by kernel_rfl)) rfl hpost
   | false =>
    have HRn:Hd (R=if(rdNum l (j)).1=0 then jT l (rdNum l (j)).2.2 (rdNum l (j)).2.1 else((rdNum l (j)).1,(rdNum l (j)).2.2,pa0)):=by show R=_;rw[HRk.o,if_neg (by rw[hw];decide)]
    have jc:Hd (∀w,RS b s (j) w->Calls prog 201 #[.pointer (some ⟨b,0,none⟩)] w fun e w'=>e=.returned (.bool false)/\RS b s (j) w'/\w.grownBy w' (some b)):=fun w h=>by have:=CW.o (j) w iw.o h;rw[hw]at this;exact this
    have lm:=ae (fun w (h:RS b s (j) w)=>CN.o (j) w iw.o h);have lq:=ae (o5.o (j) iw.o);obtain⟨E,hE⟩:=zN ((rdNum l (j)).1);obtain⟨V,hV⟩:=zN ((rdNum l (j)).2.1);obtain⟨Q,hQ⟩:=zN ((rdNum l (j)).2.2);rw[hE,hV,hQ]at lm HRn;rw[hQ]at lq;clear hE hV hQ hw;go_wp2_with (go_at_call 201;refine(jc.o _ az.o).mono ?_);rintro e u1 ⟨rfl,hr,hg⟩;replace az:=ae hr;replace aH:=ae (aH.o.growb hg ai.o.2.2.2.2.1);replace aF:=ae (aF.o.growb hg ai.o.2.2.2.2.2);replace HG:=ae (ag HG.o hg);clear hr hg;go_wp2_with (go_at_call 129;refine(lm.o _ az.o).mono ?_);rintro e u2 ⟨rfl,hr,hg⟩;replace az:=ae hr;replace aH:=ae (aH.o.growb hg ai.o.2.2.2.2.1);replace aF:=ae (aF.o.growb hg ai.o.2.2.2.2.2);replace HG:=ae (ag HG.o hg);clear hr hg
    cases hz:(E == 0) with
    | false =>
     have HZ:Hd (R=(E,Q,pa0)):=by show R=_;rw[HRn.o,if_neg (by simpa using hz)]
     have jC:Hd (E≠0):=by show E≠0;simpa using hz
     obtain⟨a0,a1,a2,a3,a4,a5⟩:=aF.o.cells;have af:=aF.o.f;obtain⟨c0,c1,c2,c3,c4,c5⟩:=aH.o.cells;have cf:=aH.o.f;obtain⟨n1,n2,n3,n4,n5,n6⟩:=ai.o;go_wp2;obtain⟨hrow,hpost⟩:=END.o (u2.setCell ⟨C,0,none⟩ (.int .i64 V)) Q 0 0 0 ⟨#[]⟩ 0 E (az.o.other ai.o.1 _ _) (aF.o.other ai.o.2.2.2.1 _ _) (bu HG.o qF.o.1 _ _) (by rw[HZ.o]) (by rw[HZ.o]) (fun h=>absurd h jC.o);exact bodyPost_ret (jA (p:=2) (u:=3) rfl _ _ A _ _ (0,0) _ rfl hrow underlying232 rfl (by kernel_rfl)) rfl hpost
    | true =>
     have HZ:Hd (R=jT l Q V):=by show R=_;rw[HRn.o,if_pos (by simpa using hz)]
     obtain⟨c0,c1,c2,c3,c4,c5⟩:=aH.o.cells;have cf:=aH.o.f;go_wp2;go_roundw
     case rel=>exact⟨1,Q,V,0,0,1,rfl,lq.o,(az.o.other ai.o.1 _ _).other ai.o.1 _ _,(aH.o.set0 V).set5 1,(aF.o.other ai.o.2.2.2.1 _ _).other ai.o.2.2.2.1 _ _,bu (bu HG.o qF.o.1 _ _) qF.o.1 _ _,Or.inr (Or.inl ⟨rfl,HZ.o,rfl,rfl,rfl⟩)⟩
     case measure=>simp[intOf]
  ·have ix:=wZ C wr;have nV:=ae hrk;clear hrk HR
   cases hc:decide (l[j]?=some 46) with
   | false =>
    have hc':=of_decide_eq_false hc;have HZ:Hd (R=(0,j,⟨1,x1,0,0,[]⟩)):=by show R=_;rw[nV.o];unfold jT;rw[if_neg hc']
    have xZ:=ae (fun w (h:RS b s j w)=>TN.o j w HJ.o hc' h);clear hc hc';go_wp2_with (go_at_call 128;refine(xZ.o _ az.o).mono ?_);rintro e u1 ⟨rfl,hr,hg⟩;replace az:=ae hr;replace aH:=ae (aH.o.growb hg ai.o.2.2.2.2.1);replace aF:=ae (aF.o.growb hg ai.o.2.2.2.2.2);replace HG:=ae (ag HG.o hg);clear hr hg;obtain⟨a0,a1,a2,a3,a4,a5⟩:=aF.o.cells;have af:=aF.o.f;obtain⟨c0,c1,c2,c3,c4,c5⟩:=aH.o.cells;have cf:=aH.o.f;obtain⟨n1,n2,n3,n4,n5,n6⟩:=ai.o;go_wp2;obtain⟨hrow,hpost⟩:=END.o u1 j x1 0 0 ⟨#[48]⟩ 1 0 az.o aF.o HG.o (by rw[HZ.o]) (by rw[HZ.o]) (fun _=>by rw[HZ.o];rfl);exact bodyPost_ret (jA (p:=2) (u:=3) rfl _ _ A _ _ (0,0) _ rfl hrow underlying232 rfl (by kernel_rfl)) rfl hpost
   | true =>
    have hc':=of_decide_eq_true hc;have HRk:Hd (R=if eu l (j+1)=true then(0,j+1+1,⟨1,x1,0,0,[]⟩) else if(rdNum l (j+1)).1=0 then jS l (rdNum l (j+1)).2.2 x1 (rdNum l (j+1)).2.1 else((rdNum l (j+1)).1,(rdNum l (j+1)).2.2,pa0)):=by show R=_;rw[nV.o];unfold jT;rw[if_pos hc']
    have xZ:=ae (fun w (h:RS b s j w)=>TY.o j w hc' h);have iw:=ae (vS.o j hc');clear hc hc';go_wp2_with (go_at_call 128;refine(xZ.o _ az.o).mono ?_);rintro e u0 ⟨rfl,hr,hg⟩;replace az:=ae hr;replace aH:=ae (aH.o.growb hg ai.o.2.2.2.2.1);replace aF:=ae (aF.o.growb hg ai.o.2.2.2.2.2);replace HG:=ae (ag HG.o hg);clear hr hg
    cases hw:eu l (j+1) with
    | true =>
     have HZ:Hd (R=(0,(j+1)+1,⟨1,x1,0,0,[]⟩)):=by show R=_;rw[HRk.o,if_pos hw]
     have jc:Hd (∀w,RS b s ((j+1)) w->Calls prog 201 #[.pointer (some ⟨b,0,none⟩)] w fun e w'=>e=.returned (.bool true)/\RS b s ((j+1)+1) w'/\w.grownBy w' (some b)):=fun w h=>by have:=CW.o ((j+1)) w iw.o h;rw[hw]at this;exact this
     clear hw;go_wp2_with (go_at_call 201;refine(jc.o _ az.o).mono ?_);rintro e u1 ⟨rfl,hr,hg⟩;replace az:=ae hr;replace aH:=ae (aH.o.growb hg ai.o.2.2.2.2.1);replace aF:=ae (aF.o.growb hg ai.o.2.2.2.2.2);replace HG:=ae (ag HG.o hg);clear hr hg;obtain⟨a0,a1,a2,a3,a4,a5⟩:=aF.o.cells;have af:=aF.o.f;obtain⟨c0,c1,c2,c3,c4,c5⟩:=aH.o.cells;have cf:=aH.o.f;obtain⟨n1,n2,n3,n4,n5,n6⟩:=ai.o;go_wp2;obtain⟨hrow,hpost⟩:=END.o u1 ((j+1)+1) x1 0 0 ⟨#[48]⟩ 1 0 az.o aF.o HG.o (by rw[HZ.o]) (by rw[HZ.o]) (fun _=>by rw[HZ.o];rfl);exact bodyPost_ret (jA (p:=2) (u:=3) rfl _ _ A _ _ (0,0) _ rfl hrow underlying232 rfl (by kernel_rfl)) rfl hpost
    | false =>
     have HRn:Hd (R=if(rdNum l ((j+1))).1=0 then jS l (rdNum l ((j+1))).2.2 x1 (rdNum l ((j+1))).2.1 else((rdNum l ((j+1))).1,(rdNum l ((j+1))).2.2,pa0)):=by show R=_;rw[HRk.o,if_neg (by rw[hw];decide)]
     have jc:Hd (∀w,RS b s ((j+1)) w->Calls prog 201 #[.pointer (some ⟨b,0,none⟩)] w fun e w'=>e=.returned (.bool false)/\RS b s ((j+1)) w'/\w.grownBy w' (some b)):=fun w h=>by have:=CW.o ((j+1)) w iw.o h;rw[hw]at this;exact this
     have lm:=ae (fun w (h:RS b s ((j+1)) w)=>CN.o ((j+1)) w iw.o h);have lq:=ae (o5.o ((j+1)) iw.o);obtain⟨E,hE⟩:=zN ((rdNum l ((j+1))).1);obtain⟨V,hV⟩:=zN ((rdNum l ((j+1))).2.1);obtain⟨Q,hQ⟩:=zN ((rdNum l ((j+1))).2.2);rw[hE,hV,hQ]at lm HRn;rw[hQ]at lq;clear hE hV hQ hw;go_wp2_with (go_at_call 201;refine(jc.o _ az.o).mono ?_);rintro e u1 ⟨rfl,hr,hg⟩;replace az:=ae hr;replace aH:=ae (aH.o.growb hg ai.o.2.2.2.2.1);replace aF:=ae (aF.o.growb hg ai.o.2.2.2.2.2);replace HG:=ae (ag HG.o hg);clear hr hg;go_wp2_with (go_at_call 129;refine(lm.o _ az.o).mono ?_);rintro e u2 ⟨rfl,hr,hg⟩;replace az:=ae hr;replace aH:=ae (aH.o.growb hg ai.o.2.2.2.2.1);replace aF:=ae (aF.o.growb hg ai.o.2.2.2.2.2);replace HG:=ae (ag HG.o hg);clear hr hg
     cases hz:(E == 0) with
     | false =>
      have HZ:Hd (R=(E,Q,pa0)):=by show R=_;rw[HRn.o,if_neg (by simpa using hz)]
      have jC:Hd (E≠0):=by show E≠0;simpa using hz
      obtain⟨a0,a1,a2,a3,a4,a5⟩:=aF.o.cells;have af:=aF.o.f;obtain⟨c0,c1,c2,c3,c4,c5⟩:=aH.o.cells;have cf:=aH.o.f;obtain⟨n1,n2,n3,n4,n5,n6⟩:=ai.o;go_wp2;obtain⟨hrow,hpost⟩:=END.o (u2.setCell ⟨C,1,none⟩ (.int .i64 V)) Q 0 0 0 ⟨#[]⟩ 0 E (az.o.other ai.o.1 _ _) (aF.o.other ai.o.2.2.2.1 _ _) (bu HG.o qF.o.1 _ _) (by rw[HZ.o]) (by rw[HZ.o]) (fun h=>absurd h jC.o);exact bodyPost_ret (jA (p:=2) (u:=3) rfl _ _ A _ _ (0,0) _ rfl hrow underlying232 rfl (by kernel_rfl)) rfl hpost
     | true =>
      have HZ:Hd (R=jS l Q x1 V):=by show R=_;rw[HRn.o,if_pos (by simpa using hz)]
      obtain⟨c0,c1,c2,c3,c4,c5⟩:=aH.o.cells;have cf:=aH.o.f;go_wp2;go_roundw
      case rel=>exact⟨2,Q,x1,V,0,2,rfl,lq.o,(az.o.other ai.o.1 _ _).other ai.o.1 _ _,(aH.o.set1 V).set5 2,(aF.o.other ai.o.2.2.2.1 _ _).other ai.o.2.2.2.1 _ _,bu (bu HG.o qF.o.1 _ _) qF.o.1 _ _,Or.inr (Or.inr (Or.inl ⟨rfl,HZ.o,rfl,rfl⟩))⟩
      case measure=>simp[intOf]
  ·have ix:=zk C wr;have nV:=ae hrk;clear hrk HR
   cases hc:decide (l[j]?=some 46) with
   | false =>
    have hc':=of_decide_eq_false hc;have HZ:Hd (R=(0,j,⟨2,x1,x2,0,[]⟩)):=by show R=_;rw[nV.o];unfold jS;rw[if_neg hc']
    have xZ:=ae (fun w (h:RS b s j w)=>TN.o j w HJ.o hc' h);clear hc hc';go_wp2_with (go_at_call 128;refine(xZ.o _ az.o).mono ?_);rintro e u1 ⟨rfl,hr,hg⟩;replace az:=ae hr;replace aH:=ae (aH.o.growb hg ai.o.2.2.2.2.1);replace aF:=ae (aF.o.growb hg ai.o.2.2.2.2.2);replace HG:=ae (ag HG.o hg);clear hr hg;obtain⟨a0,a1,a2,a3,a4,a5⟩:=aF.o.cells;have af:=aF.o.f;obtain⟨c0,c1,c2,c3,c4,c5⟩:=aH.o.cells;have cf:=aH.o.f;obtain⟨n1,n2,n3,n4,n5,n6⟩:=ai.o;go_wp2;obtain⟨hrow,hpost⟩:=END.o u1 j x1 x2 0 ⟨#[48]⟩ 2 0 az.o aF.o HG.o (by rw[HZ.o]) (by rw[HZ.o]) (fun _=>by rw[HZ.o];rfl);exact bodyPost_ret (jA (p:=2) (u:=3) rfl _ _ A _ _ (0,0) _ rfl hrow underlying232 rfl (by kernel_rfl)) rfl hpost
   | true =>
    have hc':=of_decide_eq_true hc;have HRk:Hd (R=if eu l (j+1)=true then(0,j+1+1,⟨2,x1,x2,0,[]⟩) else if(rdNum l (j+1)).1=0 then pa3 l (rdNum l (j+1)).2.2 x1 x2 (rdNum l (j+1)).2.1 else((rdNum l (j+1)).1,(rdNum l (j+1)).2.2,pa0)):=by show R=_;rw[nV.o];unfold jS;rw[if_pos hc']
    have xZ:=ae (fun w (h:RS b s j w)=>TY.o j w hc' h);have iw:=ae (vS.o j hc');clear hc hc';go_wp2_with (go_at_call 128;refine(xZ.o _ az.o).mono ?_);rintro e u0 ⟨rfl,hr,hg⟩;replace az:=ae hr;replace aH:=ae (aH.o.growb hg ai.o.2.2.2.2.1);replace aF:=ae (aF.o.growb hg ai.o.2.2.2.2.2);replace HG:=ae (ag HG.o hg);clear hr hg
    cases hw:eu l (j+1) with
    | true =>
     have HZ:Hd (R=(0,(j+1)+1,⟨2,x1,x2,0,[]⟩)):=by show R=_;rw[HRk.o,if_pos hw]
     have jc:Hd (∀w,RS b s ((j+1)) w->Calls prog 201 #[.pointer (some ⟨b,0,none⟩)] w fun e w'=>e=.returned (.bool true)/\RS b s ((j+1)+1) w'/\w.grownBy w' (some b)):=fun w h=>by have:=CW.o ((j+1)) w iw.o h;rw[hw]at this;exact this
     clear hw;go_wp2_with (go_at_call 201;refine(jc.o _ az.o).mono ?_);rintro e u1 ⟨rfl,hr,hg⟩;replace az:=ae hr;replace aH:=ae (aH.o.growb hg ai.o.2.2.2.2.1);replace aF:=ae (aF.o.growb hg ai.o.2.2.2.2.2);replace HG:=ae (ag HG.o hg);clear hr hg;obtain⟨a0,a1,a2,a3,a4,a5⟩:=aF.o.cells;have af:=aF.o.f;obtain⟨c0,c1,c2,c3,c4,c5⟩:=aH.o.cells;have cf:=aH.o.f;obtain⟨n1,n2,n3,n4,n5,n6⟩:=ai.o;go_wp2;obtain⟨hrow,hpost⟩:=END.o u1 ((j+1)+1) x1 x2 0 ⟨#[48]⟩ 2 0 az.o aF.o HG.o (by rw[HZ.o]) (by rw[HZ.o]) (fun _=>by rw[HZ.o];rfl);exact bodyPost_ret (jA (p:=2) (u:=3) rfl _ _ A _ _ (0,0) _ rfl hrow underlying232 rfl (by kernel_rfl)) rfl hpost
    | false =>
     have HRn:Hd (R=if(rdNum l ((j+1))).1=0 then pa3 l (rdNum l ((j+1))).2.2 x1 x2 (rdNum l ((j+1))).2.1 else((rdNum l ((j+1))).1,(rdNum l ((j+1))).2.2,pa0)):=by show R=_;rw[HRk.o,if_neg (by rw[hw];decide)]
     have jc:Hd (∀w,RS b s ((j+1)) w->Calls prog 201 #[.pointer (some ⟨b,0,none⟩)] w fun e w'=>e=.returned (.bool false)/\RS b s ((j+1)) w'/\w.grownBy w' (some b)):=fun w h=>by have:=CW.o ((j+1)) w iw.o h;rw[hw]at this;exact this
     have lm:=ae (fun w (h:RS b s ((j+1)) w)=>CN.o ((j+1)) w iw.o h);have lq:=ae (o5.o ((j+1)) iw.o);obtain⟨E,hE⟩:=zN ((rdNum l ((j+1))).1);obtain⟨V,hV⟩:=zN ((rdNum l ((j+1))).2.1);obtain⟨Q,hQ⟩:=zN ((rdNum l ((j+1))).2.2);rw[hE,hV,hQ]at lm HRn;rw[hQ]at lq;clear hE hV hQ hw;go_wp2_with (go_at_call 201;refine(jc.o _ az.o).mono ?_);rintro e u1 ⟨rfl,hr,hg⟩;replace az:=ae hr;replace aH:=ae (aH.o.growb hg ai.o.2.2.2.2.1);replace aF:=ae (aF.o.growb hg ai.o.2.2.2.2.2);replace HG:=ae (ag HG.o hg);clear hr hg;go_wp2_with (go_at_call 129;refine(lm.o _ az.o).mono ?_);rintro e u2 ⟨rfl,hr,hg⟩;replace az:=ae hr;replace aH:=ae (aH.o.growb hg ai.o.2.2.2.2.1);replace aF:=ae (aF.o.growb hg ai.o.2.2.2.2.2);replace HG:=ae (ag HG.o hg);clear hr hg
     cases hz:(E == 0) with
     | false =>
      have HZ:Hd (R=(E,Q,pa0)):=by show R=_;rw[HRn.o,if_neg (by simpa using hz)]
      have jC:Hd (E≠0):=by show E≠0;simpa using hz
      obtain⟨a0,a1,a2,a3,a4,a5⟩:=aF.o.cells;have af:=aF.o.f;obtain⟨c0,c1,c2,c3,c4,c5⟩:=aH.o.cells;have cf:=aH.o.f;obtain⟨n1,n2,n3,n4,n5,n6⟩:=ai.o;go_wp2;obtain⟨hrow,hpost⟩:=END.o (u2.setCell ⟨C,2,none⟩ (.int .i64 V)) Q 0 0 0 ⟨#[]⟩ 0 E (az.o.other ai.o.1 _ _) (aF.o.other ai.o.2.2.2.1 _ _) (bu HG.o qF.o.1 _ _) (by rw[HZ.o]) (by rw[HZ.o]) (fun h=>absurd h jC.o);exact bodyPost_ret (jA (p:=2) (u:=3) rfl _ _ A _ _ (0,0) _ rfl hrow underlying232 rfl (by kernel_rfl)) rfl hpost
     | true =>
      have HZ:Hd (R=pa3 l Q x1 x2 V):=by show R=_;rw[HRn.o,if_pos (by simpa using hz)]
      obtain⟨c0,c1,c2,c3,c4,c5⟩:=aH.o.cells;have cf:=aH.o.f;go_wp2;go_roundw
      case rel=>exact⟨3,Q,x1,x2,V,3,rfl,lq.o,(az.o.other ai.o.1 _ _).other ai.o.1 _ _,(aH.o.set2 V).set5 3,(aF.o.other ai.o.2.2.2.1 _ _).other ai.o.2.2.2.1 _ _,bu (bu HG.o qF.o.1 _ _) qF.o.1 _ _,Or.inr (Or.inr (Or.inr ⟨rfl,HZ.o,rfl⟩))⟩
      case measure=>simp[intOf]
  ·have nV:=ae hrk;clear hrk HR;have x8:=ae (fun w (h:RS b s j w)=>CT.o j w HJ.o h);have QP:Hd (R=if(aN l j).1=0 then(0,(aN l j).2.1,⟨3,x1,x2,x3,(aN l j).2.2.1⟩) else((aN l j).1,(aN l j).2.1,pa0)):=nV.o;obtain⟨E,Q,P,B,hT⟩:∃E Q P B,aN l j=(E,Q,P,B):=⟨_,_,_,_,rfl⟩;rw[hT]at x8 QP;clear hT;go_wp2_with (go_at_call 100;refine(x8.o _ az.o).mono ?_);rintro e u1 rfl hr hg;replace az:=ae hr;replace aH:=ae (aH.o.growb hg ai.o.2.2.2.2.1);replace aF:=ae (aF.o.growb hg ai.o.2.2.2.2.2);replace HG:=ae (ag HG.o hg);clear hr hg;obtain⟨a0,a1,a2,a3,a4,a5⟩:=aF.o.cells;have af:=aF.o.f;obtain⟨c0,c1,c2,c3,c4,c5⟩:=aH.o.cells;have cf:=aH.o.f;obtain⟨n1,n2,n3,n4,n5,n6⟩:=ai.o;have HZ:Hd (E=R.1/\Q=R.2.1/\(E=0->ww x1 x2 x3 ⟨P.toArray⟩ 3=kQ R.2.2)):=by
    have h:=QP.o
    by_cases h0:E=0
    ·rw[if_pos h0]at h;rw[h];exact⟨h0,rfl,fun _=>rfl⟩
    ·rw[if_neg h0]at h;rw[h];exact⟨rfl,rfl,fun e=>absurd e h0⟩
   go_wp2;obtain⟨hrow,hpost⟩:=END.o (u1.setCell ⟨C,3,none⟩ (.string ⟨P.toArray⟩)) Q x1 x2 x3 ⟨P.toArray⟩ 3 E (az.o.other ai.o.1 _ _) (aF.o.other ai.o.2.2.2.1 _ _) (bu HG.o qF.o.1 _ _) HZ.o.1 HZ.o.2.1 (HZ.o.2.2);exact bodyPost_ret (jA (p:=2) (u:=3) rfl _ _ A _ _ (0,0) _ rfl hrow underlying232 rfl (by kernel_rfl)) rfl hpost
end Go.Proofs.YteciokcdpadmpaaGreatDoor
