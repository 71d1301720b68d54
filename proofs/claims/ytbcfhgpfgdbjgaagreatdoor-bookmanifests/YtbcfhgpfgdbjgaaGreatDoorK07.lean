import Derived.Test.YtbcfhgpfgdbjgaaGreatDoorK04
import Derived.Test.YtbcfhgpfgdbjgaaGreatDoorK01
set_option linter.all false
set_option maxRecDepth 100000
set_option maxHeartbeats 0
open Go.Proofs.Tryz
namespace Go.Proofs.YtbcfhgpfgdbjgaaGreatDoor
open Go.RowKit
variable{a b s:ByteArray}{er:Int}{R de i p:Nat}{L O:Value}{w:World}
theorem Bi(x y:Int)(w:World):Calls prog 167 #[.int .i64 x,.int .i64 y] w fun e w'=>e=.returned (.int .i64 (Lib.compareInt x y))/\w'=w:=Any.cmp_Compare_int Tryz.lays122 x y w
theorem abT(s:ByteArray)(w:World):Calls prog 219 #[.string s,.string ⟨#[48]⟩] w fun e w'=>e=.returned (.string ⟨(iK s.data.toList).toArray⟩)/\w'=w:=Any.strings_TrimLeft_one Tryz.lays161 s 48 (by decide) w
theorem Ub(s:ByteArray)(w:World):Calls prog 229 #[.string s,.string ⟨#[46]⟩] w fun e w'=>e=.returned (.int .i64 (Lib.indexByte s.data.toList 46))/\w'=w:=Any.stringslite_Index_one Tryz.lays219 s 46 w
theorem IQ:∀(a b:List UInt8),(Op.bytesLess a b=true->Lib.compareBytes a b=-1)/\(Op.bytesLess a b=false->(a == b)=false->Lib.compareBytes a b=1)/\((a == b)=true->Lib.compareBytes a b=0)
 | [],[]=>by simp[Op.bytesLess,Lib.compareBytes]
 | [],_ :: _=>by simp[Op.bytesLess,Lib.compareBytes]
 | _ :: _,[]=>by simp[Op.bytesLess,Lib.compareBytes]
 | x :: a,y :: b=>by
  obtain⟨h1,h2,h3⟩:=IQ a b;unfold Op.bytesLess Lib.compareBytes
  by_cases hlt:x<y
  ·have hne:¬x=y:=fun e=>by rw[e]at hlt;exact UInt8.lt_irrefl y hlt
   simp[hlt,hne]
  ·by_cases heq:x=y
   ·subst heq;simp only[hlt,decide_false,Bool.false_or,beq_self_eq_true,Bool.true_and,if_false];refine⟨h1,fun p q=>h2 p (by simpa using q),fun q=>h3 (by simpa using q)⟩
   ·have hgt:=UInt8.lt_of_le_of_ne (UInt8.not_lt.1 hlt) (Ne.symm heq);simp[hlt,heq,hgt]
theorem Uc(h:Op.bytesLess a.toList b.toList=true):Lib.compareBytes a.data.toList b.data.toList=-1:=by
 rw[Lib.toList_data,Lib.toList_data]at h;exact(IQ _ _).1 h
theorem Ud(h:Op.bytesLess a.toList b.toList=false)(h':(!a.toList == b.toList)=true):Lib.compareBytes a.data.toList b.data.toList=1:=by
 rw[Lib.toList_data,Lib.toList_data]at h h';exact(IQ _ _).2.1 h (by simpa using h')
theorem Ue(h':(!a.toList == b.toList)=false):Lib.compareBytes a.data.toList b.data.toList=0:=by
 rw[Lib.toList_data,Lib.toList_data]at h';exact(IQ _ _).2.2 (by simpa using h')
theorem Na(s:ByteArray)(w:World):Calls prog 295 #[.string s] w fun e w'=>e=.returned (.bool false)/\w'=w:=by
 go_enter func295,ntmps295;go_wp2;go_ret;exact⟨rfl,rfl⟩
theorem abU(a b:ByteArray)(w:World):Calls prog 294 #[.string a,.string b] w fun e w'=>e=.returned (.int .i64 (Lib.compareBytes a.data.toList b.data.toList))/\w'=w:=by
 cases h1:Op.bytesLess a.toList b.toList with
 |true=>
  rw[Uc h1];go_enter func294,ntmps294;go_wp2_with (go_at_call 295;refine(Na _ _).mono ?_;rintro e w' ⟨rfl,rfl⟩);go_ret;exact⟨rfl,rfl⟩
 |false=>
  cases h2:(!a.toList == b.toList) with
  |true=>
   rw[Ud h1 h2];go_enter func294,ntmps294;go_wp2_with (go_at_call 295;refine(Na _ _).mono ?_;rintro e w' ⟨rfl,rfl⟩);go_ret;exact⟨rfl,rfl⟩
  |false=>
   rw[Ue h2];go_enter func294,ntmps294;go_wp2_with (go_at_call 295;refine(Na _ _).mono ?_;rintro e w' ⟨rfl,rfl⟩);go_ret;exact⟨rfl,rfl⟩
theorem Nb(s:ByteArray)(w:World):Calls prog 298 #[.string s] w fun e w'=>e=.returned (.bool false)/\w'=w:=by
 go_enter func298,ntmps298;go_wp2;go_ret;exact⟨rfl,rfl⟩
theorem abV(a b:ByteArray)(w:World):Calls prog 297 #[.string a,.string b] w fun e w'=>e=.returned (.int .i64 (Lib.compareBytes a.data.toList b.data.toList))/\w'=w:=by
 cases h1:Op.bytesLess a.toList b.toList with
 |true=>
  rw[Uc h1];go_enter func297,ntmps297;go_wp2_with (go_at_call 298;refine(Nb _ _).mono ?_;rintro e w' ⟨rfl,rfl⟩);go_ret;exact⟨rfl,rfl⟩
 |false=>
  cases h2:(!a.toList == b.toList) with
  |true=>
   rw[Ud h1 h2];go_enter func297,ntmps297;go_wp2_with (go_at_call 298;refine(Nb _ _).mono ?_;rintro e w' ⟨rfl,rfl⟩);go_ret;exact⟨rfl,rfl⟩
  |false=>
   rw[Ue h2];go_enter func297,ntmps297;go_wp2_with (go_at_call 298;refine(Nb _ _).mono ?_;rintro e w' ⟨rfl,rfl⟩);go_ret;exact⟨rfl,rfl⟩
open Go.RowKit Go.Joins
def Dd(w:World)(R:Nat)(s:ByteArray)(L O:Value)(now de i:Nat)(er:Int)(p:Nat):Prop:=w.heap[R]?=some (.cells #[.string s,.int .i64 i,L,O,.int .i64 now,.int .i64 er,.int .i64 p,.int .i64 de] 72 (0,0))
section
variable {w w':World} {R:Nat} {s:ByteArray} {L O:Value} {now de i:Nat} {er:Int} {p:Nat}
theorem Dd.grow(h:Dd w R s L O now de i er p)(hg:w.grownBy w' none):Dd w' R s L O now de i er p:=(hg.block R (bJ h) (by simp)).trans h
theorem Dd.cells(h:Dd w R s L O now de i er p):w.cell? ⟨R,0,none⟩=some (.string s)/\w.cell? ⟨R,1,none⟩=some (.int .i64 i)/\w.cell? ⟨R,2,none⟩=some L/\w.cell? ⟨R,3,none⟩=some O/\w.cell? ⟨R,4,none⟩=some (.int .i64 now)/\w.cell? ⟨R,5,none⟩=some (.int .i64 er)/\w.cell? ⟨R,6,none⟩=some (.int .i64 p)/\w.cell? ⟨R,7,none⟩=some (.int .i64 de)/\∀k,w.frozen? ⟨R,k,none⟩=false :=
 ⟨by rw[aj h];rfl,by rw[aj h];rfl,by rw[aj h];rfl,by rw[aj h];rfl,by rw[aj h];rfl,by rw[aj h];rfl,by rw[aj h];rfl,by rw[aj h];rfl,fun k=>Lib.frozen_of_heap h k⟩
theorem Dd.setI(h:Dd w R s L O now de i er p)(j:Nat):Dd (w.setCell ⟨R,1,none⟩ (.int .i64 j)) R s L O now de j er p:=block_setCell (i:=1) h _
theorem Dd.setL(h:Dd w R s L O now de i er p)(v:Value):Dd (w.setCell ⟨R,2,none⟩ v) R s v O now de i er p:=block_setCell (i:=2) h _
theorem Dd.setO(h:Dd w R s L O now de i er p)(v:Value):Dd (w.setCell ⟨R,3,none⟩ v) R s L v now de i er p:=block_setCell (i:=3) h _
theorem Dd.setN(h:Dd w R s L O now de i er p)(j:Nat):Dd (w.setCell ⟨R,4,none⟩ (.int .i64 j)) R s L O j de i er p:=block_setCell (i:=4) h _
theorem Dd.setE(h:Dd w R s L O now de i er p)(e:Int):Dd (w.setCell ⟨R,5,none⟩ (.int .i64 e)) R s L O now de i e p:=block_setCell (i:=5) h _
theorem Dd.setA(h:Dd w R s L O now de i er p)(j:Nat):Dd (w.setCell ⟨R,6,none⟩ (.int .i64 j)) R s L O now de i er j:=block_setCell (i:=6) h _
theorem Dd.setD(h:Dd w R s L O now de i er p)(j:Nat):Dd (w.setCell ⟨R,7,none⟩ (.int .i64 j)) R s L O now j i er p:=block_setCell (i:=7) h _
end
def Ds(w:World)(R:Nat)(s:ByteArray)(L O:Value)(now de:Nat)(q:Rs Nat):Prop:=match q with | .ok i=>i<=s.size/\Dd w R s L O now de i 0 0 | .error (c,p)=>c≠0/\∃j,j<=s.size/\Dd w R s L O now de j c p
theorem Ds.grow{w':World}{now:Nat}{q:Rs Nat}(h:Ds w R s L O now de q)(hg:w.grownBy w' none):Ds w' R s L O now de q:=by
 match q,h with
 | .ok i,h=>exact⟨h.1,h.2.grow hg⟩
 | .error (c,p),⟨h1,j,h2,h3⟩=>exact⟨h1,j,h2,h3.grow hg⟩
def iL(l:List UInt8)(q:Rs Nat)(c:Int):Bool:=match q with | .ok i=>decide (nx l i=c) | .error _=>false
theorem Nc(R:Nat)(s:ByteArray)(L O:Value)(now de i:Nat)(er:Int)(p:Nat)(e:Int)(a:Nat)(w:World)(h:Dd w R s L O now de i er p)(hE:¬er=0) :
  Calls prog 58 #[.pointer (some ⟨R,0,none⟩),.int .i64 e,.int .i64 a] w fun en w'=>en=.returned (.tuple #[])/\w'=w:=by
 obtain⟨-,-,-,-,-,c5,-,-,-⟩:=h.cells;have hn:(er == 0)=false:=by simpa using hE
 clear h hE;go_enter func58,ntmps58;go_wp2;exact bodyPost_end (results_none rfl _ _ _) rfl ⟨rfl,rfl⟩
theorem qK(R:Nat)(s:ByteArray)(L O:Value)(now de i:Nat)(e:Int)(a:Nat)(w:World)(h:Dd w R s L O now de i 0 0) :
  Calls prog 58 #[.pointer (some ⟨R,0,none⟩),.int .i64 e,.int .i64 a] w fun en w'=>en=.returned (.tuple #[])/\Dd w' R s L O now de i e a/\w.grownBy w' (some R):=by
 obtain⟨-,-,-,-,-,c5,c6,-,df⟩:=h.cells;have df5:=df 5;have df6:=df 6;have HS:=ae ((h.setE e).setA a);have HG:Hd (w.grownBy ((w.setCell ⟨R,5,none⟩ (.int .i64 e)).setCell ⟨R,6,none⟩ (.int .i64 a)) (some R)):=aT (aT (ax w (some R)) 5 _) 6 _;clear h df;go_enter func58,ntmps58;go_wp2;exact bodyPost_end (results_none rfl _ _ _) rfl ⟨rfl,HS.o,HG.o⟩
theorem uk(R:Nat)(s:ByteArray)(L O:Value)(now de:Nat)(q:Rs Nat)(c:Int)(hc:0<=c)(w:World)(h:Ds w R s L O now de q)(hs:s.size<=1048576) :
  Calls prog 39 #[.pointer (some ⟨R,0,none⟩),.int .u8 c] w fun e w'=>e=.returned (.bool (iL s.data.toList q c))/\w.grownBy w' none:=by
 have hl:s.data.toList.length=s.size:=by simp
 match q,h with
 | .error (k,p),⟨h1,j,h2,h3⟩ =>
  obtain⟨c0,c1,-,-,-,c5,-,-,-⟩:=h3.cells;have hn:(k == 0)=false:=by simpa using h1
  have e:iL s.data.toList (.error (k,p)) c=false:=rfl;rw[e];clear h3 h1 e;go_enter func39,ntmps39;go_wp2;go_quiet (fail);go_wp2;go_ret;exact⟨rfl,⟨rfl,rfl,rfl,Nat.le_refl _,fun _ _ _=>rfl⟩⟩
 | .ok i,⟨h1,h2⟩ =>
  obtain⟨c0,c1,-,-,-,c5,-,-,-⟩:=h2.cells;have e:iL s.data.toList (.ok i) c=decide (nx s.data.toList i=c):=rfl;rw[e];clear h2 e
  by_cases hlt:i<s.size
  ·have hn:nx s.data.toList i=(s[i].toNat:Int):=by rw[qG _ _ (by omega)];rfl
   rw[hn];obtain⟨b,hb⟩:=zN (((s[i].toNat:Int) == c));have hb2:decide ((s[i].toNat:Int)=c)=b:=by rw[<-hb,Bool.eq_iff_iff];simp
   have hlt':decide ((i:Int)<(s.size:Int))=true:=by simp;omega
   rw[hb2];clear hn hb2
   cases b with
   |true=>
    go_enter func39,ntmps39;go_wp2;go_quiet (fail);go_wp2;go_ret;exact⟨rfl,⟨rfl,rfl,rfl,Nat.le_refl _,fun _ _ _=>rfl⟩⟩
   |false=>
    go_enter func39,ntmps39;go_wp2;go_quiet (fail);go_wp2;go_ret;exact⟨rfl,⟨rfl,rfl,rfl,Nat.le_refl _,fun _ _ _=>rfl⟩⟩
  ·rw[jF _ _ (by omega),decide_eq_false (by omega)];have hge:decide ((i:Int)<(s.size:Int))=false:=by simp;omega
   go_enter func39,ntmps39;go_wp2;go_quiet (fail);go_wp2;go_ret;exact⟨rfl,⟨rfl,rfl,rfl,Nat.le_refl _,fun _ _ _=>rfl⟩⟩
theorem Nh(R:Nat)(s:ByteArray)(L O:Value)(now de:Nat)(q:Rs Nat)(c:Int)(hc:0<=c)(w:World)(h:Ds w R s L O now de q)(hs:s.size<=1048576) :
  Calls prog 43 #[.pointer (some ⟨R,0,none⟩),.int .u8 c] w fun e w'=>e=.returned (.tuple #[])/\Ds w' R s L O now de (q.bind fun i=>must s.data.toList i c)/\w.grownBy w' (some R):=by
 have hl:s.data.toList.length=s.size:=by simp
 have CI:=ae (uk R s L O now de q c hc w h hs)
 match q,h with
 | .error (k,p),⟨h1,j,h2,h3⟩ =>
  have e:iL s.data.toList (.error (k,p)) c=false:=rfl;rw[e]at CI;have HD:=ae h3;have HK:=ae h1;have HJ:=ae h2;clear h3 h1 h2 e;go_enter func43,ntmps43;go_wp2_with (go_at_call 39;refine CI.o.mono ?_);rintro e w1 ⟨rfl,hg1⟩;have HD1:=ae (HD.o.grow hg1);have aC:=ae (aP (ax w (some R)) hg1);obtain⟨-,c1,-⟩:=HD1.o.cells;clear hg1;go_wp2_with (go_at_call 58;refine(Nc R s L O now de j k p _ _ _ HD1.o HK.o).mono ?_;rintro e w2 ⟨rfl,rfl⟩);refine bodyPost_ret (results_none rfl _ _ _) rfl ?_;exact⟨rfl,⟨HK.o,j,HJ.o,HD1.o⟩,aC.o⟩
 | .ok i,⟨h1,h2⟩ =>
  have e:iL s.data.toList (.ok i) c=decide (nx s.data.toList i=c):=rfl;rw[e]at CI;have HD:=ae h2;have HI:=ae h1;have e2:(Except.bind (.ok i) fun i=>must s.data.toList i c:Rs Nat)=if nx s.data.toList i=c then .ok (i+1) else .error (2,i):=rfl;rw[e2];have dC:Hd (nx s.data.toList i=c->i<s.size):=fun hn=>by rw[<-hl];exact bD (by omega)
  clear h2 e e2
  by_cases hn:nx s.data.toList i=c
  ·rw[decide_eq_true hn]at CI;rw[if_pos hn];have hlt:=dC.o hn;clear hn dC;go_enter func43,ntmps43;go_wp2_with (go_at_call 39;refine CI.o.mono ?_);rintro e w1 ⟨rfl,hg1⟩;have HD1:=ae (HD.o.grow hg1);have aC:=ae (aP (ax w (some R)) hg1);obtain⟨-,c1,-,-,-,-,-,-,df⟩:=HD1.o.cells;have df1:=df 1;have HS:Hd (Dd (w1.setCell ⟨R,1,none⟩ (.int .i64 ((i:Int)+1))) R s L O now de (i+1) 0 0):=HD1.o.setI (i+1);clear hg1 df;go_wp2;exact bodyPost_end (results_none rfl _ _ _) rfl ⟨rfl,⟨by omega,HS.o⟩,aT aC.o 1 _⟩
  ·rw[decide_eq_false hn]at CI;rw[if_neg hn];clear hn dC;go_enter func43,ntmps43;go_wp2_with (go_at_call 39;refine CI.o.mono ?_);rintro e w1 ⟨rfl,hg1⟩;have HD1:=ae (HD.o.grow hg1);have aC:=ae (aP (ax w (some R)) hg1);obtain⟨-,c1,-⟩:=HD1.o.cells;clear hg1;go_wp2_with (go_at_call 58;refine(qK R s L O now de i 2 i _ HD1.o).mono ?_;rintro e w2 ⟨rfl,h2,h3⟩);refine bodyPost_ret (results_none rfl _ _ _) rfl ?_;exact⟨rfl,⟨by decide,i,HI.o,h2⟩,dK aC.o h3⟩
open Go.RowKit Go.Joins
def dI(wr:World)(R:Nat):Nat:=match wr.cell? ⟨R,1,none⟩ with|some (.int _ k)=>k.toNat|_=>0
theorem xH{now:Nat}(h:Dd w R s L O now de i er p):dI w R=i:=by unfold dI;rw[h.cells.2.1];simp
def jd(l:List UInt8)(i:Nat):Rs Nat:=if(bH l i).1=true then .ok (bH l i).2 else .error (2,(bH l i).2)
def jT(l:List UInt8)(i:Nat):Rs Nat:=if nx l (toR eQ l i)=10\/nx l (toR eQ l i)=-1 then .ok (toR eQ l i) else .error (2,toR eQ l i)
theorem Uf(l:List UInt8)(i:Nat)(h:nx l i=35):jd l i=jT l i:=by
 unfold jd bH jT;rw[if_pos h]
 by_cases h2:nx l (toR eQ l i)=10\/nx l (toR eQ l i)=-1
 ·simp only[if_pos h2,if_true]
 ·simp[if_neg h2]
theorem Ug(l:List UInt8)(i:Nat)(h:¬nx l i=35):jd l i=.ok i:=by
 unfold jd;rw[Iq l i h];rfl
theorem abW(l:List UInt8)(i:Nat)(h:nx l i=-1):jT l i=.ok i:=by
 unfold jT;rw[Em eQ l i (En h),if_pos (Or.inr h)]
theorem abX(l:List UInt8)(i:Nat)(h:nx l i=10):jT l i=.ok i:=by
 unfold jT;rw[mJ eQ l i (by rw[h];rfl),if_pos (Or.inl h)]
theorem abY(l:List UInt8)(i:Nat)(h:jG (nx l i)=true)(h10:¬nx l i=10)(h1:¬nx l i=-1):jT l i=.error (2,i):=by
 unfold jT;rw[mJ eQ l i (by unfold eQ;rw[h];simp),if_neg (by rintro(h|h);exact h10 h;exact h1 h)]
theorem Uh(l:List UInt8)(i:Nat)(h:jG (nx l i)=false)(h10:¬nx l i=10)(h1:¬nx l i=-1):jT l i=jT l (i+1):=by
 unfold jT;have hb:=Ip l i;rw[rO eQ l i (bD (by omega)) (by unfold eQ;rw[h];simp[h10])]
theorem Ui(c:UInt8)(w:World):Calls prog 60 #[.int .u8 (c.toNat:Int)] w fun e w'=>e=.returned (.bool (jG (c.toNat:Int)))/\w'=w:=by
 have:=c.toNat_lt;go_enter func60,ntmps60;go_wp2
 all_goals go_ret
 all_goals (refine⟨bu ?_,rfl⟩;rw[Bool.eq_iff_iff];unfold jG AZ;simp;try omega)
theorem Uj(R:Nat)(s:ByteArray)(L O:Value)(now de:Nat)(q:Rs Nat)(w:World)(h:Ds w R s L O now de q)(hs:s.size<=1048576) :
  Calls prog 38 #[.pointer (some ⟨R,0,none⟩)] w fun e w'=>e=.returned (.tuple #[])/\Ds w' R s L O now de (q.bind fun i=>.ok (bl s.data.toList i))/\w.grownBy w' (some R):=by
 have hl:s.data.toList.length=s.size:=by simp
 have CI:=ae (fun q c w (h0:0<=c) (h1:Ds w R s L O now de q)=>uk R s L O now de q c h0 w h1 hs);have HST:Hd (∀k,k<s.size->gu (nx s.data.toList k)=true->bl s.data.toList k=bl s.data.toList (k+1)):=fun k hk hb=>rO gu _ k (by omega) hb
 have gQ:Hd (∀k,gu (nx s.data.toList k)=false->bl s.data.toList k=k):=fun k hb=>mJ gu _ k hb
 have dC:Hd (∀k,0<=nx s.data.toList k->k<s.size):=fun k hb=>by rw[<-hl];exact bD hb
 obtain⟨J,hJ⟩:∃J:Rs Nat,(q.bind fun i=>.ok (bl s.data.toList i))=J:=⟨_,rfl⟩;have HJ:=ae hJ;have H0:=ae h;rw[hJ];clear h hJ;go_enter func38,ntmps38;go_wp2;go_loopw [] (fun wr=>∃q:Rs Nat,Ds wr R s L O now de q/\(q.bind fun i=>.ok (bl s.data.toList i))=J/\w.grownBy wr (some R)) (fun wr=>s.size-dI wr R)
 case atStart=>exact⟨q,H0.o,HJ.o,ax _ _⟩
 case round=>
  obtain⟨q,hds,hbl,hg⟩:=hrel;have HG:=ae hg;have C1:=ae (CI.o q);have dF:=ae hds;have fV:=ae hbl;clear hds hbl hg;obtain⟨b1,hb1⟩:=zN (iL s.data.toList q 32);obtain⟨b2,hb2⟩:=zN (iL s.data.toList q 9);have zn:Hd (∀w,Ds w R s L O now de q->Calls prog 39 #[.pointer (some ⟨R,0,none⟩),.int .u8 32] w fun e w'=>e=.returned (.bool b1)/\w.grownBy w' none):=fun w h=>by rw[<-hb1];exact C1.o 32 w (by decide) h
  have C9:Hd (∀w,Ds w R s L O now de q->Calls prog 39 #[.pointer (some ⟨R,0,none⟩),.int .u8 9] w fun e w'=>e=.returned (.bool b2)/\w.grownBy w' none):=fun w h=>by rw[<-hb2];exact C1.o 9 w (by decide) h
  have HB1:=ae hb1;have HB2:=ae hb2;clear hb1 hb2;have Uk:Hd ((b1=true\/b2=true)->∃k,k<s.size/\Dd wr R s L O now de k 0 0/\(Except.ok (bl s.data.toList (k+1)):Rs Nat)=J):=fun hor=>by
   match q,dF.o,HB1.o,HB2.o,fV.o with
   | .error e,_,hh1,hh2,_=>
    exfalso;unfold iL at hh1 hh2;subst hh1 hh2
    rcases hor with h|h<;>cases h
   | .ok k,hd,hh1,hh2,hj =>
    have hx:gu (nx s.data.toList k)=true:=by
     unfold iL at hh1 hh2;unfold gu;subst hh1 hh2
     rcases hor with h|h
     ·have:=of_decide_eq_true h;simp[this]
     ·have:=of_decide_eq_true h;simp[this]
    have hkl:=dC.o k (by unfold gu at hx;have:=of_decide_eq_true hx;omega);refine⟨k,hkl,hd.2,?_⟩;rw[<-HST.o k hkl hx];exact hj
  have jI:Hd (b1=false->b2=false->q=J):=fun h1 h2=>by
   match q,dF.o,HB1.o,HB2.o,fV.o with
   | .error e,_,_,_,hj=>exact hj
   | .ok k,hd,hh1,hh2,hj =>
    rw[<-hj];show _=Except.ok _;rw[gQ.o k];unfold iL at hh1 hh2;unfold gu;rw[h1]at hh1;rw[h2]at hh2;have:=of_decide_eq_false hh1;have:=of_decide_eq_false hh2;simp[*]
  have step:∀(wx:World) (k:Nat),wr.grownBy wx none->k<s.size->Dd wr R s L O now de k 0 0->(Except.ok (bl s.data.toList (k+1)):Rs Nat)=J->(∃q:Rs Nat,Ds (wx.setCell ⟨R,1,none⟩ (.int .i64 ((k:Int)+1))) R s L O now de q/\(q.bind fun i=>.ok (bl s.data.toList i))=J/\w.grownBy (wx.setCell ⟨R,1,none⟩ (.int .i64 ((k:Int)+1))) (some R))/\s.size-dI (wx.setCell ⟨R,1,none⟩ (.int .i64 ((k:Int)+1))) R<s.size-dI wr R:=fun wx k hg hk hd hj=>by
   have hd2:=(hd.grow hg).setI (k+1);refine⟨⟨.ok (k+1),⟨by omega,hd2⟩,hj,aT (aP HG.o hg) 1 _⟩,?_⟩;have e1:=xH hd2;rw[xH hd];have e2:(wx.setCell ⟨R,1,none⟩ (.int .i64 ((k+1:Nat):Int)))=wx.setCell ⟨R,1,none⟩ (.int .i64 ((k:Int)+1)):=rfl;rw[e2]at e1;rw[e1];omega
  have Ul:=ae step;clear step
  cases b1 with
  |true=>
   obtain⟨k,hk,hd,hj⟩:=Uk.o (Or.inl rfl);have HD:=ae hd;have HJ2:=ae hj;clear hd hj;go_wp2_with (go_at_call 39;refine(zn.o _ dF.o).mono ?_)
   first|rintro e w1 rfl hg1|rintro e w1 ⟨rfl,hg1⟩
   have aC:=ae hg1;obtain⟨-,c1,-,-,-,-,-,-,df⟩:=(HD.o.grow hg1).cells;have df1:=df 1;clear hg1 df;go_wp2;exact Ul.o w1 k aC.o hk HD.o HJ2.o
  |false=>
   cases b2 with
   |true=>
    obtain⟨k,hk,hd,hj⟩:=Uk.o (Or.inr rfl);have HD:=ae hd;have HJ2:=ae hj;clear hd hj;go_wp2_with (go_at_call 39;refine(zn.o _ dF.o).mono ?_)
    first|rintro e w1 rfl hg1|rintro e w1 ⟨rfl,hg1⟩
    have aC:=ae hg1;clear hg1;go_wp2_with (go_at_call 39;refine(C9.o _ (dF.o.grow aC.o)).mono ?_)
    first|rintro e w2 rfl hg2|rintro e w2 ⟨rfl,hg2⟩
    have HG2:=ae (ak aC.o hg2);obtain⟨-,c1,-,-,-,-,-,-,df⟩:=(HD.o.grow HG2.o).cells;have df1:=df 1;clear hg2 df;go_wp2;exact Ul.o w2 k HG2.o hk HD.o HJ2.o
   |false=>
    have HQ:=ae (jI.o rfl rfl);go_wp2_with (go_at_call 39;refine(zn.o _ dF.o).mono ?_)
    first|rintro e w1 rfl hg1|rintro e w1 ⟨rfl,hg1⟩
    have aC:=ae hg1;clear hg1;go_wp2_with (go_at_call 39;refine(C9.o _ (dF.o.grow aC.o)).mono ?_)
    first|rintro e w2 rfl hg2|rintro e w2 ⟨rfl,hg2⟩
    have HG2:=ae (ak aC.o hg2);clear hg2;go_wp2;refine bodyPost_end (results_none rfl _ _ _) rfl ⟨rfl,?_,aP HG.o HG2.o⟩;rw[<-HQ.o];exact dF.o.grow HG2.o
theorem abZ(l:List UInt8)(f i:Nat)(h:gu (nx l i)=true):gap l f i=gap l f (i+1)\/f=0:=by
 cases f with
 |zero=>exact Or.inr rfl
 |succ f=>
  left;have hi:i<l.length:=bD (by unfold gu at h;have:=of_decide_eq_true h;omega);have e:bl l i=bl l (i+1):=rO gu l i hi h;rw[vN,vN,e]
theorem Um(l:List UInt8)(f i:Nat)(h:nx l i=10):gap l (f+1) i=gap l f (i+1):=by
 have e:bl l i=i:=mJ gu l i (by rw[h];rfl);have e2:=Iq l i (by rw[h];decide);rw[vN,e,e2];simp only[h];rfl
theorem Un(l:List UInt8)(f i:Nat)(h:gu (nx l i)=false)(h1:¬nx l i=10)(h2:¬nx l i=35):gap l (f+1) i=.ok i:=by
 have e:bl l i=i:=mJ gu l i h;have e2:=Iq l i h2;rw[vN,e,e2];simp[h1]
theorem ab1(l:List UInt8)(f i:Nat)(h:nx l i=35):gap l (f+1) i=(jd l i).bind (gap l (f+1)):=by
 have e:bl l i=i:=mJ gu l i (by rw[h];rfl);rw[vN,e];unfold jd;have hc:bH l i=if nx l (toR eQ l i)=10\/nx l (toR eQ l i)=-1 then(true,toR eQ l i) else(false,toR eQ l i):=by unfold bH;rw[if_pos h]
 rw[hc]
 by_cases h1:nx l (toR eQ l i)=10\/nx l (toR eQ l i)=-1
 ·simp only[if_pos h1,if_true];rw[if_neg (by decide)];show _=gap l (f+1) (toR eQ l i)
  rcases h1 with h1|h1
  ·rw[if_pos h1,Um l f _ h1]
  ·rw[if_neg (by rw[h1];decide),Un l f _ (by rw[h1];rfl) (by rw[h1];decide) (by rw[h1];decide)]
 ·simp only[if_neg h1,if_true];rw[if_neg (by decide)];rfl
theorem ab2(l:List UInt8)(i j:Nat)(h:nx l i=35)(hj:jd l i=.ok j):i<j/\j<=l.length:=by
 have hi:i<l.length:=bD (by omega);rw[Uf l i h,Uh l i (by rw[h];rfl) (by rw[h];decide) (by rw[h];decide)]at hj;have:=qH eQ l (i+1) (by omega);unfold jT at hj;split at hj
 ·injection hj with hj;omega
 ·cases hj
def jl:List UInt8->Nat->Nat
 | [],n=>n
 | c :: r,n=>jl r (if n<=99999999999999999 then 10*n+(c.toNat - 48) else 1000000000000000000)
theorem Uo:∀(ds:List UInt8),jl ds 1000000000000000000=1000000000000000000
 | []=>rfl
 | c :: r=>by
  unfold jl;rw[if_neg (by omega)];exact Uo r
theorem Ur:∀(ds:List UInt8) (n a:Nat),(∀c∈ds,c.toNat<=57)->n<10 ^ a->a+ds.length<=18->jl ds n=iR ds n/\iR ds n<10 ^ (a+ds.length)
 | [],n,a,_,hn,_=>⟨rfl,hn⟩
 | c :: r,n,a,hd,hn,hl=>by
  have hc:=hd c (by simp);simp only[List.length_cons]at hl ⊢;have h17:10 ^ a<=10 ^ 17:=Nat.pow_le_pow_right (by omega) (by omega);have hle:n<=99999999999999999:=by
   have e:(10:Nat) ^ 17=100000000000000000:=by decide
   omega
  unfold jl iR;rw[if_pos hle];have hn':10*n+(c.toNat - 48)<10 ^ (a+1):=by rw[Nat.pow_succ];omega
  have:=Ur r _ (a+1) (fun x hx=>hd x (by simp[hx])) hn' (by omega);rw[show a+1+r.length=a+(r.length+1) by omega]at this;exact this
theorem Ut:∀(ds:List UInt8) (n a:Nat),(∀c∈ds,c.toNat<=57)->10 ^ a<=n->n<=1000000000000000000->18<=a+ds.length->jl ds n=1000000000000000000
 | [],n,a,_,hn,hm,hl=>by
  have h18:10 ^ 18<=10 ^ a:=Nat.pow_le_pow_right (by omega) (by simpa using hl);have e:(10:Nat) ^ 18=1000000000000000000:=by decide
  show n=_;omega
 | c :: r,n,a,hd,hn,hm,hl=>by
  have hc:=hd c (by simp);unfold jl
  by_cases hle:n<=99999999999999999
  ·rw[if_pos hle];refine Ut r _ (a+1) (fun x hx=>hd x (by simp[hx])) (by rw[Nat.pow_succ];omega) (by omega) (by simp only[List.length_cons]at hl;omega)
  ·rw[if_neg hle];exact Uo r
theorem Uu:∀(a b:List UInt8) (n:Nat),jl (a++b) n=jl b (jl a n)
 | [],b,n=>rfl
 | c :: r,b,n=>by
  show jl (r++b) _=jl b (jl r _);rw[Uu r b]
open Go.RowKit Go.Joins
def dE(wr:World)(R:Nat):Int:=match wr.cell? ⟨R,5,none⟩ with|some (.int _ e)=>e|_=>1
theorem Uw{now:Nat}(h:Dd w R s L O now de i er p):dE w R=er:=by unfold dE;rw[h.cells.2.2.2.2.2.1]
def dM(wr:World)(R:Nat)(s:ByteArray):Nat:=if dE wr R=0 then s.size-dI wr R+1 else 0
theorem vU{now:Nat}(h:Dd w R s L O now de i 0 p):dM w R s=s.size-i+1:=by
 unfold dM;rw[Uw h,xH h,if_pos rfl]
theorem IR{now:Nat}(h:Dd w R s L O now de i er p)(he:¬er=0):dM w R s=0:=by
 unfold dM;rw[Uw h,if_neg he]
theorem byte_at(s:ByteArray)(k:Nat)(hk:k<s.size):nx s.data.toList k=(s[k].toNat:Int):=by
 rw[qG _ _ (by simpa using hk)];rfl
theorem Ux(R:Nat)(s:ByteArray)(L O:Value)(now de:Nat)(q:Rs Nat)(w:World)(h:Ds w R s L O now de q)(hs:s.size<=1048576) :
  Calls prog 42 #[.pointer (some ⟨R,0,none⟩)] w fun e w'=>e=.returned (.tuple #[])/\Ds w' R s L O now de (q.bind (jd s.data.toList))/\w.grownBy w' (some R):=by
 have hl:s.data.toList.length=s.size:=by simp
 have CI:=ae (uk R s L O now de q 35 (by decide) w h hs);have dF:=ae h;have Bj:Hd (iL s.data.toList q 35=true->∃k,q=.ok k/\q.bind (jd s.data.toList)=jT s.data.toList k):=fun hh=>by
  match q with
  | .error e=>unfold iL at hh;cases hh
  | .ok k=>exact⟨k,rfl,Uf _ k (of_decide_eq_true hh)⟩
 have HC2:Hd (iL s.data.toList q 35=false->q.bind (jd s.data.toList)=q):=fun hh=>by
  match q with
  | .error e=>rfl
  | .ok k=>exact Ug _ k (of_decide_eq_false hh)
 obtain⟨b,hb⟩:=zN (iL s.data.toList q 35);rw[hb]at CI Bj HC2;have HX:Hd (∀k (hk:k<s.size),nx s.data.toList k=(s[k].toNat:Int)):=byte_at s;have lK:Hd (∀k,nx s.data.toList k=10->jT s.data.toList k=.ok k):=abX _;have HE2:Hd (∀k,s.size<=k->jT s.data.toList k=.ok k):=fun k hk=>abW _ _ (jF _ _ (by omega))
 have xI:Hd (∀k (hk:k<s.size),jG (s[k].toNat:Int)=true->¬(s[k].toNat:Int)=10->jT s.data.toList k=.error (2,k)):=fun k hk h1 h2=>abY _ _ (by rw[byte_at s k hk];exact h1) (by rw[byte_at s k hk];exact h2) (by rw[byte_at s k hk];omega)
 have zo:Hd (∀k (hk:k<s.size),jG (s[k].toNat:Int)=false->¬(s[k].toNat:Int)=10->jT s.data.toList k=jT s.data.toList (k+1)):=fun k hk h1 h2=>Uh _ _ (by rw[byte_at s k hk];exact h1) (by rw[byte_at s k hk];exact h2) (by rw[byte_at s k hk];omega)
 clear h hb
 cases b with
 |false=>
  rw[HC2.o rfl];go_enter func42,ntmps42;go_wp2_with (go_at_call 39;refine CI.o.mono ?_)
  first|rintro e w1 rfl hg1|rintro e w1 ⟨rfl,hg1⟩
  have aC:=ae hg1;clear hg1;go_wp2;refine bodyPost_ret (results_none rfl _ _ _) rfl ?_;exact⟨rfl,dF.o.grow aC.o,aP (ax w (some R)) aC.o⟩
 |true=>
  obtain⟨k0,hq,hcr⟩:=Bj.o rfl;rw[hcr];obtain⟨Q,hQ⟩:=zN (jT s.data.toList k0);have HQ:=ae hQ;rw[hQ];have HD0:Hd (k0<=s.size/\Dd w R s L O now de k0 0 0):=by
   have:=dF.o;rw[hq]at this;exact this
  clear hq hcr hQ Bj HC2 dF;go_enter func42,ntmps42;go_wp2_with (go_at_call 39;refine CI.o.mono ?_)
  first|rintro e w1 rfl hg1|rintro e w1 ⟨rfl,hg1⟩
  have aC:=ae (aP (ax w (some R)) hg1);have HD1:=ae (HD0.o.2.grow hg1);clear hg1;go_wp2;go_loopw [] (fun wr=>∃q:Rs Nat,Ds wr R s L O now de q/\q.bind (jT s.data.toList)=Q/\w.grownBy wr (some R)) (fun wr=>dM wr R s)
  case atStart=>exact⟨.ok k0,⟨HD0.o.1,HD1.o⟩,HQ.o,aC.o⟩
  case round=>
   obtain⟨q,hds,hbl,hg⟩:=hrel;have HG:=ae hg;clear hg
   match q,hds,hbl with
   | .error (c,p),⟨hc,j,hj,hd⟩,hq =>
    have nS:Hd (Q=.error (c,p)):=hq.symm;obtain⟨c0,c1,-,-,-,c5,-,-,-⟩:=hd.cells;have hn:(c == 0)=false:=by simpa using hc
    have HD:=ae hd;have HC:=ae hc;clear hd hq hc
    by_cases hlt:j<s.size
    ·have hlt':decide ((j:Int)<(s.size:Int))=true:=by simp;omega
     obtain⟨b,hb⟩:=zN (((s[j].toNat:Int) != 10))
     cases b with
     |true=>
      go_wp2;go_quiet (fail);go_wp2;refine bodyPost_end (results_none rfl _ _ _) rfl ?_;rw[nS.o];exact⟨rfl,⟨HC.o,j,hj,HD.o⟩,⟨HG.o.os,HG.o.tape,HG.o.output,HG.o.size,HG.o.block⟩⟩
     |false=>
      go_wp2;go_quiet (fail);go_wp2;refine bodyPost_end (results_none rfl _ _ _) rfl ?_;rw[nS.o];exact⟨rfl,⟨HC.o,j,hj,HD.o⟩,⟨HG.o.os,HG.o.tape,HG.o.output,HG.o.size,HG.o.block⟩⟩
    ·have hge:decide ((j:Int)<(s.size:Int))=false:=by simp;omega
     go_wp2;go_quiet (fail);go_wp2;refine bodyPost_end (results_none rfl _ _ _) rfl ?_;rw[nS.o];exact⟨rfl,⟨HC.o,j,hj,HD.o⟩,⟨HG.o.os,HG.o.tape,HG.o.output,HG.o.size,HG.o.block⟩⟩
   | .ok k,⟨hk,hd⟩,hq =>
    have rV:Hd (jT s.data.toList k=Q):=hq;obtain⟨c0,c1,-,-,-,c5,-,-,df⟩:=hd.cells;have df1:=df 1;have HD:=ae hd;have HM:=ae (vU hd);clear hd hq df
    by_cases hlt:k<s.size
    ·have hlt':decide ((k:Int)<(s.size:Int))=true:=by simp;omega
     have hu:=s[k].toNat_lt;have IU:=ae (HX.o k hlt);have ab3:=ae (lK.o k);have Uy:=ae (xI.o k hlt);have Uz:=ae (zo.o k hlt);have CC:=ae (Ui s[k]);obtain⟨b,hb⟩:=zN (((s[k].toNat:Int) != 10))
     cases b with
     |false=>
      have nS:Hd (Q=.ok k):=by
       show _=_;rw[<-rV.o,ab3.o (by rw[IU.o];simpa using hb)]
      go_wp2;go_quiet (fail);go_wp2;refine bodyPost_end (results_none rfl _ _ _) rfl ?_;rw[nS.o];exact⟨rfl,⟨hk,HD.o⟩,⟨HG.o.os,HG.o.tape,HG.o.output,HG.o.size,HG.o.block⟩⟩
     |true=>
      have Eo:Hd (¬(s[k].toNat:Int)=10):=by
       show ¬_;simpa using hb
      obtain⟨b2,hb2⟩:=zN (jG (s[k].toNat:Int));rw[hb2]at CC Uy Uz;clear hb2
      cases b2 with
      |true=>
       have nS:=ae (rV.o.symm.trans (Uy.o rfl Eo.o));have CF:=ae (fun wx (hg:Dd wx R s L O now de k 0 0)=>qK R s L O now de k 2 k wx hg);go_wp2;go_quiet (fail);have aF:Hd (Dd (wr.drewN nq) R s L O now de k 0 0):=HD.o;have dh:=ae (az HG.o nq);obtain⟨wA,hwA⟩:=zN (wr.drewN nq);rw[hwA]at aF dh ⊢;obtain⟨d0,d1,-,-,-,d5,-,-,dg⟩:=aF.o.cells;have dg1:=dg 1;clear hwA dg;go_wp2;go_quiet (first|(go_at_call 60;exact Calls.quiet_of_same (CC.o _)));go_wp2_with (first|(go_at_call 60;refine(CC.o _).mono ?_;rintro e w' ⟨rfl,rfl⟩)|(go_at_call 58;refine(CF.o _ ?_).mono ?_;exact aF.o;rintro e w2 ⟨rfl,hd2,hg2⟩;obtain⟨-,d1,-,-,-,-,-,-,dff⟩:=hd2.cells;have dff1:=dff 1));refine⟨⟨.error (2,k),⟨by decide,k+1,by omega,hd2.setI (k+1)⟩,nS.o.symm,aT (dK (w1:=wA) dh.o ⟨hg2.os,hg2.tape,hg2.output,hg2.size,hg2.block⟩) 1 _⟩,?_⟩;rw[HM.o]
       have e1:=IR (hd2.setI (k+1)) (by decide);have e2:(w2.setCell ⟨R,1,none⟩ (.int .i64 ((k+1:Nat):Int)))=w2.setCell ⟨R,1,none⟩ (.int .i64 ((k:Int)+1)):=rfl;rw[e2]at e1;rw[e1];omega
      |false=>
       have nS:=ae ((Uz.o rfl Eo.o).symm.trans rV.o);go_wp2;go_quiet (fail);have aF:Hd (Dd (wr.drewN nq) R s L O now de k 0 0):=HD.o;have dh:=ae (az HG.o nq);obtain⟨wA,hwA⟩:=zN (wr.drewN nq);rw[hwA]at aF dh ⊢;obtain⟨d0,d1,-,-,-,d5,-,-,dg⟩:=aF.o.cells;have dg1:=dg 1;clear hwA dg;go_wp2;go_quiet (first|(go_at_call 60;exact Calls.quiet_of_same (CC.o _)));go_wp2_with (go_at_call 60;refine(CC.o _).mono ?_;rintro e w' ⟨rfl,rfl⟩);have HS:=aF.o.setI (k+1);refine⟨⟨.ok (k+1),⟨by omega,HS⟩,nS.o,?_⟩,?_⟩
       ·exact aT (az dh.o _) 1 _
       ·rw[HM.o];refine Nat.lt_of_le_of_lt (Nat.le_of_eq (vU (i:=k+1) HS)) (by omega)
    ·have hge:decide ((k:Int)<(s.size:Int))=false:=by simp;omega
     have nS:=ae (rV.o.symm.trans (HE2.o k (by omega)));go_wp2;go_quiet (fail);go_wp2;refine bodyPost_end (results_none rfl _ _ _) rfl ?_;rw[nS.o];exact⟨rfl,⟨hk,HD.o⟩,⟨HG.o.os,HG.o.tape,HG.o.output,HG.o.size,HG.o.block⟩⟩
open Go.RowKit Go.Joins
theorem ab4(R:Nat)(s:ByteArray)(L O:Value)(now de:Nat)(q:Rs Nat)(w:World)(h:Ds w R s L O now de q)(hs:s.size<=1048576) :
  Calls prog 116 #[.pointer (some ⟨R,0,none⟩)] w fun e w'=>e=.returned (.tuple #[])/\Ds w' R s L O now de (q.bind (gap s.data.toList (s.data.toList.length+1)))/\w.grownBy w' (some R):=by
 have hl:s.data.toList.length=s.size:=by simp
 have CI:=ae (fun q c w (h0:0<=c) (h1:Ds w R s L O now de q)=>uk R s L O now de q c h0 w h1 hs);have CC:=ae (fun q w (h:Ds w R s L O now de q)=>Ux R s L O now de q w h hs);have dC:Hd (∀k,0<=nx s.data.toList k->k<s.size):=fun k hb=>by rw[<-hl];exact bD hb
 have HX:Hd (∀k (hk:k<s.size),nx s.data.toList k=(s[k].toNat:Int)):=byte_at s;have lK:=ae (fun f k (hb:gu (nx s.data.toList k)=true)=>(abZ _ (f+1) k hb).resolve_right (by omega));have HE2:Hd (∀f k,nx s.data.toList k=10->gap s.data.toList (f+1) k=gap s.data.toList f (k+1)):=Um _;have xI:Hd (∀f k,nx s.data.toList k=35->gap s.data.toList (f+1) k=(jd s.data.toList k).bind (gap s.data.toList (f+1))):=ab1 _;have zo:Hd (∀f k,gu (nx s.data.toList k)=false->¬nx s.data.toList k=10->¬nx s.data.toList k=35->gap s.data.toList (f+1) k=.ok k):=Un _;have HE5:Hd (∀k j,nx s.data.toList k=35->jd s.data.toList k=.ok j->k<j/\j<=s.size):=fun k j h1 h2=>by rw[<-hl];exact ab2 _ k j h1 h2
 obtain⟨G,hG⟩:=zN (q.bind (gap s.data.toList (s.data.toList.length+1)));have iT:=ae hG;have H0:=ae h;rw[hG];have HF0:Hd (∀k,q=.ok k->s.size-k<s.data.toList.length+1):=fun k _=>by omega
 clear h hG;go_enter func116,ntmps116;go_wp2;go_loopw [] (fun wr=>∃(q:Rs Nat) (f:Nat),Ds wr R s L O now de q/\(∀k,q=.ok k->s.size-k<f)/\q.bind (gap s.data.toList f)=G/\w.grownBy wr (some R)) (fun wr=>dM wr R s)
 case atStart=>exact⟨q,_,H0.o,HF0.o,iT.o,ax _ _⟩
 case round=>
  obtain⟨q,f,hds,hf,oJ,hg⟩:=hrel;have HG:=ae hg;have dF:=ae hds;have C1:=ae (CI.o q);obtain⟨b1,hb1⟩:=zN (iL s.data.toList q 32);obtain⟨b2,hb2⟩:=zN (iL s.data.toList q 9);obtain⟨b3,hb3⟩:=zN (iL s.data.toList q 10);obtain⟨b4,hb4⟩:=zN (iL s.data.toList q 35);have zn:Hd (∀w,Ds w R s L O now de q->Calls prog 39 #[.pointer (some ⟨R,0,none⟩),.int .u8 32] w fun e w'=>e=.returned (.bool b1)/\w.grownBy w' none):=fun w h=>by rw[<-hb1];exact C1.o 32 w (by decide) h
  have C9:Hd (∀w,Ds w R s L O now de q->Calls prog 39 #[.pointer (some ⟨R,0,none⟩),.int .u8 9] w fun e w'=>e=.returned (.bool b2)/\w.grownBy w' none):=fun w h=>by rw[<-hb2];exact C1.o 9 w (by decide) h
  have C10:Hd (∀w,Ds w R s L O now de q->Calls prog 39 #[.pointer (some ⟨R,0,none⟩),.int .u8 10] w fun e w'=>e=.returned (.bool b3)/\w.grownBy w' none):=fun w h=>by rw[<-hb3];exact C1.o 10 w (by decide) h
  have UA:Hd (∀w,Ds w R s L O now de q->Calls prog 39 #[.pointer (some ⟨R,0,none⟩),.int .u8 35] w fun e w'=>e=.returned (.bool b4)/\w.grownBy w' none):=fun w h=>by rw[<-hb4];exact C1.o 35 w (by decide) h
  clear hds hg C1 CI
  by_cases hor:b1=true\/b2=true\/b3=true\/b4=true
  ·-- it goes on
   obtain⟨k,hq⟩:∃k,q=.ok k:=by
    match q with
    | .ok k=>exact⟨k,rfl⟩
    | .error e =>
     exfalso;unfold iL at hb1 hb2 hb3 hb4;subst hb1 hb2 hb3 hb4;simp at hor
   rw[hq]at hb1 hb2 hb3 hb4 oJ hf;obtain⟨x,hx⟩:=zN (nx s.data.toList k);have e1:decide (x=32)=b1:=by rw[<-hx];exact hb1
   have e2:decide (x=9)=b2:=by rw[<-hx];exact hb2
   have e3:decide (x=10)=b3:=by rw[<-hx];exact hb3
   have e4:decide (x=35)=b4:=by rw[<-hx];exact hb4
   have hfk:=hf k rfl;obtain⟨f,rfl⟩:∃f',f=f'+1:=⟨f-1,by omega⟩;have EF:gap s.data.toList (f+1) k=G:=oJ;have hd:k<=s.size/\Dd wr R s L O now de k 0 0:=by have:=dF.o;rw[hq]at this;exact this
   have hxo:x=32\/x=9\/x=10\/x=35:=by
    subst e1 e2 e3 e4;simpa using hor
   have hkl:=dC.o k (by rw[hx];omega);have EG:=ae (HX.o k hkl);have HD:=ae hd.2;have HM:=ae (vU hd.2);clear hb1 hb2 hb3 hb4 hf hor zo
   by_cases h35:x=35
   ·-- a comment
    have hb:((s[k].toNat:Int) == 35)=true:=by rw[<-EG.o,hx];simp[h35]
    have dU:Hd ((jd s.data.toList k).bind (gap s.data.toList (f+1))=G):=by
     show _=_;rw[<-xI.o f k (by rw[hx,h35]),EF]
    have UB:=ae (fun j=>HE5.o k j (by rw[hx,h35]));have CCk:Hd (∀w',wr.grownBy w' none->Calls prog 42 #[.pointer (some ⟨R,0,none⟩)] w' fun e w''=>e=.returned (.tuple #[])/\Ds w'' R s L O now de (jd s.data.toList k)/\w'.grownBy w'' (some R)):=fun w' hg=>CC.o (.ok k) w' ⟨hd.1,hd.2.grow hg⟩
    obtain rfl:b1=false:=by rw[<-e1,h35];rfl
    obtain rfl:b2=false:=by rw[<-e2,h35];rfl
    obtain rfl:b3=false:=by rw[<-e3,h35];rfl
    obtain rfl:b4=true:=by rw[<-e4,h35];rfl
    clear e1 e2 e3 e4 hx hxo h35 oJ EF hq hd;go_wp2_with (go_at_call 39;refine(zn.o _ dF.o).mono ?_)
    first|rintro e w1 rfl hg1|rintro e w1 ⟨rfl,hg1⟩
    have aC:=ae hg1;clear hg1;go_wp2_with (go_at_call 39;refine(C9.o _ (dF.o.grow aC.o)).mono ?_)
    first|rintro e w2 rfl hg2|rintro e w2 ⟨rfl,hg2⟩
    have HG2:=ae (ak aC.o hg2);clear hg2;go_wp2_with (go_at_call 39;refine(C10.o _ (dF.o.grow HG2.o)).mono ?_)
    first|rintro e w3 rfl hg3|rintro e w3 ⟨rfl,hg3⟩
    have aU:=ae (ak HG2.o hg3);clear hg3;go_wp2_with (go_at_call 39;refine(UA.o _ (dF.o.grow aU.o)).mono ?_)
    first|rintro e w4 rfl hg4|rintro e w4 ⟨rfl,hg4⟩
    have dn:=ae (ak aU.o hg4);obtain⟨c0,c1,-⟩:=(HD.o.grow dn.o).cells;clear hg4;go_wp2;go_quiet (fail);go_wp2_with (go_at_call 42;refine(CCk.o _ ?_).mono ?_;exact az dn.o _;rintro e w5 ⟨rfl,hd5,hg5⟩);have fJ:=ae (dK (aP HG.o dn.o) ⟨hg5.os,hg5.tape,hg5.output,hg5.size,hg5.block⟩);have HD5:=ae hd5;obtain⟨u,hu⟩:=zN (jd s.data.toList k);rw[hu]at HD5 UB dU;clear hd5 hg5 hu;go_wp2
    match u,HD5.o,UB.o,dU.o with
    | .error (c,p),hh,_,hgc =>
     obtain⟨hc,j,hj,hd⟩:=hh;refine⟨⟨.error (c,p),f+1,⟨hc,j,hj,hd⟩,nofun,hgc,fJ.o⟩,?_⟩;rw[HM.o,IR hd hc];omega
    | .ok j,hh,hlc,hgc =>
     have:=hlc j rfl;refine⟨⟨.ok j,f+1,hh,fun _ hh=>(by cases hh;omega),hgc,fJ.o⟩,?_⟩;rw[HM.o,vU hh.2];omega
   ·have hb:((s[k].toNat:Int) == 35)=false:=by rw[<-EG.o,hx];simpa using h35
    have MI:Hd (∃f',s.size-(k+1)<f'/\gap s.data.toList f' (k+1)=G):=by
     by_cases h10:x=10
     ·exact⟨f,by omega,by rw[<-HE2.o f k (by rw[hx,h10])];exact EF⟩
     ·refine⟨f+1,by omega,?_⟩;rw[<-lK.o f k (by rw[hx];unfold gu;simp;omega)];exact EF
    have fin:∀wx:World,wr.grownBy wx none->(∃(q:Rs Nat) (f:Nat),Ds (wx.setCell ⟨R,1,none⟩ (.int .i64 ((k:Int)+1))) R s L O now de q/\(∀k,q=.ok k->s.size-k<f)/\q.bind (gap s.data.toList f)=G/\w.grownBy (wx.setCell ⟨R,1,none⟩ (.int .i64 ((k:Int)+1))) (some R))/\dM (wx.setCell ⟨R,1,none⟩ (.int .i64 ((k:Int)+1))) R s<dM wr R s:=fun wx hg=>by
     obtain⟨f',hf',hgg⟩:=MI.o;have hdd:=(HD.o.grow hg).setI (k+1);refine⟨⟨.ok (k+1),f',⟨by omega,hdd⟩,fun _ hh=>(by cases hh;omega),hgg,aT (aP HG.o hg) 1 _⟩,?_⟩;have e1:=vU hdd;have e2:(wx.setCell ⟨R,1,none⟩ (.int .i64 ((k+1:Nat):Int)))=wx.setCell ⟨R,1,none⟩ (.int .i64 ((k:Int)+1)):=rfl;rw[e2]at e1;rw[e1,HM.o];omega
    have EH:=ae fin;clear fin;have IV:Hd (b1=true\/(b1=false/\b2=true)\/(b1=false/\b2=false/\b3=true)):=by
     show _\/_;subst e1 e2 e3
     rcases hxo with h|h|h|h
     ·left;simp[h]
     ·right;left;simp[h]
     ·right;right;simp[h]
     ·exact(h35 h).elim
    clear e1 e2 e3 e4 hx hxo h35 oJ EF hq hd;go_wp2_with (go_at_call 39;refine(zn.o _ dF.o).mono ?_)
    first|rintro e w1 rfl hg1|rintro e w1 ⟨rfl,hg1⟩
    have aC:=ae hg1;clear hg1
    rcases IV.o with rfl|⟨rfl,rfl⟩|⟨rfl,rfl,rfl⟩
    ·obtain⟨c0,c1,-,-,-,-,-,-,df⟩:=(HD.o.grow aC.o).cells;have df1:=df 1;clear df;go_wp2;go_quiet (fail);go_wp2;exact EH.o _ (ak aC.o ⟨rfl,rfl,rfl,Nat.le_refl _,fun _ _ _=>rfl⟩)
    ·go_wp2_with (go_at_call 39;refine(C9.o _ (dF.o.grow aC.o)).mono ?_)
     first|rintro e w2 rfl hg2|rintro e w2 ⟨rfl,hg2⟩
     have HG2:=ae (ak aC.o hg2);obtain⟨c0,c1,-,-,-,-,-,-,df⟩:=(HD.o.grow HG2.o).cells;have df1:=df 1;clear df hg2;go_wp2;go_quiet (fail);go_wp2;exact EH.o _ (ak HG2.o ⟨rfl,rfl,rfl,Nat.le_refl _,fun _ _ _=>rfl⟩)
    ·go_wp2_with (go_at_call 39;refine(C9.o _ (dF.o.grow aC.o)).mono ?_)
     first|rintro e w2 rfl hg2|rintro e w2 ⟨rfl,hg2⟩
     have HG2:=ae (ak aC.o hg2);clear hg2;go_wp2_with (go_at_call 39;refine(C10.o _ (dF.o.grow HG2.o)).mono ?_)
     first|rintro e w3 rfl hg3|rintro e w3 ⟨rfl,hg3⟩
     have aU:=ae (ak HG2.o hg3);obtain⟨c0,c1,-,-,-,-,-,-,df⟩:=(HD.o.grow aU.o).cells;have df1:=df 1;clear df hg3;go_wp2;go_quiet (fail);go_wp2;exact EH.o _ (ak aU.o ⟨rfl,rfl,rfl,Nat.le_refl _,fun _ _ _=>rfl⟩)
  ·-- nothing of the kind
   have HQG:Hd (q=G):=by
    show q=G;rw[<-oJ]
    match q with
    | .error e=>rfl
    | .ok k =>
     have hfk:=hf k rfl;obtain⟨f,rfl⟩:∃f',f=f'+1:=⟨f-1,by omega⟩;unfold iL at hb1 hb2 hb3 hb4;subst hb1 hb2 hb3 hb4;simp only[decide_eq_true_eq,not_or]at hor;refine(zo.o f k ?_ hor.2.2.1 hor.2.2.2).symm;unfold gu;simp[hor.1,hor.2.1]
   obtain rfl:b1=false:=by cases b1<;>simp at hor ⊢
   obtain rfl:b2=false:=by cases b2<;>simp at hor ⊢
   obtain rfl:b3=false:=by cases b3<;>simp at hor ⊢
   obtain rfl:b4=false:=by cases b4<;>simp at hor ⊢
   clear hb1 hb2 hb3 hb4 hf hor oJ;go_wp2_with (go_at_call 39;refine(zn.o _ dF.o).mono ?_)
   first|rintro e w1 rfl hg1|rintro e w1 ⟨rfl,hg1⟩
   have aC:=ae hg1;clear hg1;go_wp2_with (go_at_call 39;refine(C9.o _ (dF.o.grow aC.o)).mono ?_)
   first|rintro e w2 rfl hg2|rintro e w2 ⟨rfl,hg2⟩
   have HG2:=ae (ak aC.o hg2);clear hg2;go_wp2_with (go_at_call 39;refine(C10.o _ (dF.o.grow HG2.o)).mono ?_)
   first|rintro e w3 rfl hg3|rintro e w3 ⟨rfl,hg3⟩
   have aU:=ae (ak HG2.o hg3);clear hg3;go_wp2_with (go_at_call 39;refine(UA.o _ (dF.o.grow aU.o)).mono ?_)
   first|rintro e w4 rfl hg4|rintro e w4 ⟨rfl,hg4⟩
   have dn:=ae (ak aU.o hg4);clear hg4;go_wp2;refine bodyPost_end (results_none rfl _ _ _) rfl ⟨rfl,?_,aP HG.o dn.o⟩;rw[<-HQG.o];exact dF.o.grow dn.o
open Go.RowKit Go.Joins
theorem Bl(c:UInt8)(w:World):Calls prog 47 #[.int .u8 (c.toNat:Int)] w fun e w'=>e=.returned (.bool (aI (c.toNat:Int)))/\w'=w:=by
 have:=c.toNat_lt;go_enter func47,ntmps47;go_wp2
 all_goals go_ret
 all_goals (refine⟨bu ?_,rfl⟩;rw[Bool.eq_iff_iff];unfold aI;simp;try omega)
theorem ab5(c:UInt8)(w:World):Calls prog 85 #[.int .u8 (c.toNat:Int)] w fun e w'=>e=.returned (.bool (bP (c.toNat:Int)))/\w'=w:=by
 have hc:=c.toNat_lt;have CD:=ae (Bl c);have HB:Hd (bP (c.toNat:Int)=(decide (97<=(c.toNat:Int)/\(c.toNat:Int)<=122) || decide (65<=(c.toNat:Int)/\(c.toNat:Int)<=90) || aI (c.toNat:Int) || decide ((c.toNat:Int)=95) || decide ((c.toNat:Int)=45))):=rfl;obtain⟨b,hb⟩:=zN (aI (c.toNat:Int));obtain⟨r,hr⟩:=zN (bP (c.toNat:Int));rw[hb]at CD HB;rw[hr]at HB ⊢;clear hb hr;obtain⟨x,hx⟩:∃x:Int,(c.toNat:Int)=x:=⟨_,rfl⟩;have hx0:0<=x:=by omega
 rw[hx]at CD HB ⊢;clear hx hc
 cases b with
 |true=>
  go_enter func85,ntmps85;go_wp2_with (go_at_call 47;refine(CD.o _).mono ?_;rintro e w' ⟨rfl,rfl⟩)
  all_goals go_ret
  all_goals (refine⟨bu ?_,rfl⟩;rw[HB.o,Bool.eq_iff_iff];simp;try omega)
 |false=>
  go_enter func85,ntmps85;go_wp2_with (go_at_call 47;refine(CD.o _).mono ?_;rintro e w' ⟨rfl,rfl⟩)
  all_goals go_ret
  all_goals (refine⟨bu ?_,rfl⟩;rw[HB.o,Bool.eq_iff_iff];simp;try omega)
def IW(c:Int):Int:=if 48<=c/\c<=57 then c-48 else if 97<=c/\c<=102 then c-87 else -1
theorem ab6(c:Int)(h0:0<=c)(h1:c<256)(w:World):Calls prog 62 #[.int .u8 c] w fun e w'=>e=.returned (.int .i64 (IW c))/\w'=w:=by
 obtain⟨r,hr⟩:=zN (IW c);have HR:Hd ((if 48<=c/\c<=57 then c-48 else if 97<=c/\c<=102 then c-87 else -1)=r):=hr;rw[hr];clear hr;go_enter func62,ntmps62;go_wp2
 all_goals go_ret
 all_goals (refine⟨dm ?_,rfl⟩;rw[<-HR.o];repeat' split)
 all_goals (first|rfl|omega)
theorem ab7(s:ByteArray)(i:Nat)(lo hi:Int)(hlo:0<=lo)(w:World)(hs:s.size<=1048576) :
  Calls prog 147 #[.string s,.int .i64 i,.int .u8 lo,.int .u8 hi] w fun e w'=>e=.returned (.bool (oI s.data.toList i lo hi))/\w'=w:=by
 have hl:s.data.toList.length=s.size:=by simp
 by_cases hlt:i<s.size
 ·have HG:Hd (oI s.data.toList i lo hi=decide (lo<=(s[i].toNat:Int)/\(s[i].toNat:Int)<=hi)):=by
   show _=_;unfold oI;rw[byte_at s i hlt]
  obtain⟨r,hr⟩:=zN (oI s.data.toList i lo hi);rw[hr]at HG ⊢;clear hr;go_enter func147,ntmps147;go_wp2
  all_goals go_ret
  all_goals (refine⟨bu ?_,rfl⟩;rw[HG.o,Bool.eq_iff_iff];simp;try omega)
 ·have HG:Hd (oI s.data.toList i lo hi=false):=by
   show _=_;unfold oI;rw[jF _ _ (by omega),decide_eq_false (by omega)]
  rw[HG.o];go_enter func147,ntmps147;go_wp2
  all_goals go_ret
  all_goals exact⟨rfl,rfl⟩
theorem ab8(l:List UInt8)(i:Nat)(x:Int)(hx:nx l i=x):bi l i=if x<0 then 0 else if x<128 then 1 else if x<194\/244<x then 0 else if oI l (i+1) (if x=224 then 160 else if x=240 then 144 else 128) (if x=237 then 159 else if x=244 then 143 else 191)=false then 0 else if x<224 then 2 else if oI l (i+2) 128 191=false then 0 else if x<240 then 3 else if oI l (i+3) 128 191=false then 0 else 4:=by
 subst hx;rfl
theorem ab9(s:ByteArray)(i:Nat)(hi:i<s.size)(w:World)(hs:s.size<=1048576) :
  Calls prog 115 #[.string s,.int .i64 i] w fun e w'=>e=.returned (.int .i64 (bi s.data.toList i:Nat))/\w'=w:=by
 obtain⟨x,hx⟩:∃x:Int,(s[i].toNat:Int)=x:=⟨_,rfl⟩;have h0:0<=x:=by omega
 have hv:=ab8 s.data.toList i x ((byte_at s i hi).trans hx);have CG:Hd (∀(k:Nat) (z lo hi:Int) b w,(i:Int)+k=z->0<=lo->oI s.data.toList (i+k) lo hi=b->Calls prog 147 #[.string s,.int .i64 z,.int .u8 lo,.int .u8 hi] w fun e w'=>e=.returned (.bool b)/\w'=w):=fun k z lo hi b w hz h hb=>by rw[<-hb,<-hz];exact ab7 s (i+k) lo hi h w hs
 have hor:x<128\/(128<=x/\x<194)\/244<x\/(194<=x/\x<224)\/x=224\/(225<=x/\x<=236)\/x=237\/(238<=x/\x<=239)\/x=240\/(241<=x/\x<=243)\/x=244:=by omega
 have hd:∀p:Prop,[Decidable p]->(p/\decide p=true)\/(¬p/\decide p=false):=fun p _=>by by_cases h:p<;>simp[h]
 have he:∀c:Int,(x=c/\(x == c)=true)\/(¬x=c/\(x == c)=false):=fun c=>by by_cases h:x=c<;>simp[h]
 rcases hd (x<128) with⟨p0,t0⟩|⟨p0,t0⟩
 ·rw[if_neg (by omega),if_pos p0]at hv;rw[hv];clear hv hor hd he CG;go_enter func115,ntmps115;go_wp2;go_ret;exact⟨rfl,rfl⟩
 ·rw[if_neg (by omega),if_neg p0]at hv
  by_cases p1:x<194\/244<x
  ·rw[if_pos p1]at hv;rw[hv]
   rcases hd (x<194) with⟨q1,t1⟩|⟨q1,t1⟩<;>rcases hd (244<x) with⟨q2,t2⟩|⟨q2,t2⟩
   all_goals first
    | (exact absurd p1 (by omega))
    | (
       clear hv hor hd he CG p1;go_enter func115,ntmps115;go_wp2;go_ret;exact⟨rfl,rfl⟩)
  ·rw[if_neg p1]at hv;have q1:decide (x<194)=false:=by simp;omega
   have q2:decide (244<x)=false:=by simp;omega
   rcases he 224 with⟨p5,t5⟩|⟨p5,t5⟩<;>rcases he 237 with⟨p6,t6⟩|⟨p6,t6⟩<;>rcases he 240 with⟨p7,t7⟩|⟨p7,t7⟩<;>rcases he 244 with⟨p8,t8⟩|⟨p8,t8⟩<;>rcases hd (224<=x) with⟨p3,t3⟩|⟨p3,t3⟩<;>rcases hd (240<=x) with⟨p4,t4⟩|⟨p4,t4⟩
   all_goals first
    | omega
    | (
       simp only[p5,p6,p7,p8,Int.reduceEq,Int.reduceLT,↓reduceIte]at hv
       first
        | simp only[show x<224 by omega,↓reduceIte]at hv
        | simp only[show ¬x<224 by omega,show x<240 by omega,↓reduceIte]at hv
        | simp only[show ¬x<224 by omega,show ¬x<240 by omega,↓reduceIte]at hv
        | skip
       clear hor hd he p1;split at hv
       all_goals (try(split at hv))
       all_goals (try(split at hv))
       all_goals (
        rw[hv];clear hv
        try simp only[Bool.not_eq_false]at *
        go_enter func115,ntmps115;go_wp2_with (go_at_call 147;refine(CG.o 1 _ _ _ _ _ rfl (by decide) (by assumption)).mono ?_;rintro e w' ⟨rfl,rfl⟩)
        first
         | (go_ret;exact⟨rfl,rfl⟩)
         | (
         refine wp_loop_rounds 3 ?_;rw[rounds_succ];go_wp2_with (go_at_call 147;refine(CG.o 2 _ _ _ _ _ rfl (by decide) (by assumption)).mono ?_;rintro e w' ⟨rfl,rfl⟩)
         first
          | (go_ret;exact⟨rfl,rfl⟩)
          | (
             rw[rounds_succ];go_wp2_with (go_at_call 147;refine(CG.o 3 _ _ _ _ _ rfl (by decide) (by assumption)).mono ?_;rintro e w' ⟨rfl,rfl⟩)
             first
              | (go_ret;exact⟨rfl,rfl⟩)
              | (
              rw[rounds_succ];go_wp2;go_ret;exact⟨rfl,rfl⟩)))))
end Go.Proofs.YtbcfhgpfgdbjgaaGreatDoor
