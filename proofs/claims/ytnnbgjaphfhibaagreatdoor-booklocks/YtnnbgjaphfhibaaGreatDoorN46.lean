import Derived.Test.YtnnbgjaphfhibaaGreatDoorN33
import Derived.Test.YtnnbgjaphfhibaaGreatDoorN41
import Derived.Test.YtnnbgjaphfhibaaGreatDoorN40
import Derived.Test.YtnnbgjaphfhibaaGreatDoorN25
import Derived.Test.YtnnbgjaphfhibaaGreatDoorN45
import Derived.Test.YtnnbgjaphfhibaaGreatDoorN39
import Derived.Test.YtnnbgjaphfhibaaGreatDoorN32
set_option linter.unusedVariables false
set_option linter.unusedSimpArgs false
set_option maxRecDepth 100000
set_option maxHeartbeats 6400000
open Go.Proofs.Tryz
namespace Go.Proofs.YtnnbgjaphfhibaaGreatDoor
open Go.RowKit Go.Maps Go.WideMaps Go.Joins
structure SpF(b0 b1:Nat)(w w':World):Prop where
 os:w'.os=w.os
 tape:w'.tape=w.tape
 output:w'.output=w.output
 size:w.heap.size<=w'.heap.size
 block:∀b,(b<b0\/b1<=b)->w'.heap[b]?=w.heap[b]?
theorem SpF.refl(b0 b1:Nat)(w:World):SpF b0 b1 w w:=⟨rfl,rfl,rfl,Nat.le_refl _,fun _ _=>rfl⟩
theorem SpF.set{b0 b1:Nat}{w w':World}(h:SpF b0 b1 w w'){g:Nat}(h0:b0<=g)(h1:g<b1)(o:Nat)(v:Value):SpF b0 b1 w (w'.setCell ⟨g,o,none⟩ v) :=
 ⟨h.os,h.tape,h.output,by have:=h.size;simpa [World.setCell] using this,fun b hb=>(heap_setCell_other w' _ b v (by simp only[];omega)).trans (h.block b hb)⟩
theorem SpF.below{b0 b1:Nat}{w w':World}(h:SpF b0 b1 w w'):Below b0 w w':=⟨h.os,h.tape,h.output,h.size,fun k hk=>h.block k (Or.inl hk)⟩
structure SpL(w:World)(b0 b1 N n i:Nat)(ks:Nat->Value)(ls:Nat->Nat):Prop where
 lo:b0<=N
 hi:N<b1
 row:∃cur,w.heap[N]?=some (.cells cur 64 (0,0))/\n*6<=cur.size/\∀j,i<=j->j<n->cur[j*6+4]?=some (ks j)
 kid:∀j,j<n->∃o c,ks j=.slice o (ls j) c/\ls j<=1000000/\(0<ls j->∃g cur,o=some ⟨g,0,none⟩/\b0<=g/\g<b1/\w.heap[g]?=some (.cells cur 3 (0,0))/\ls j<=cur.size)
section
variable {w:World} {b0 b1 N n i:Nat} {ks:Nat->Value} {ls:Nat->Nat}
theorem SpL.next(h:SpL w b0 b1 N n i ks ls):SpL w b0 b1 N n (i+1) ks ls:=by
 obtain⟨cur,h1,h2,h3⟩:=h.row;exact⟨h.lo,h.hi,⟨cur,h1,h2,fun j hj hn=>h3 j (by omega) hn⟩,h.kid⟩
theorem SpL.cell(h:SpL w b0 b1 N n i ks ls)(o:Nat)(ho:o<i*6)(v:Value):SpL (w.setCell ⟨N,o,none⟩ v) b0 b1 N n i ks ls:=by
 obtain⟨cur,h1,h2,h3⟩:=h.row;refine⟨h.lo,h.hi,⟨cur.setIfInBounds o v,block_setCell h1 v,by simpa using h2,fun j hj hn=>?_⟩,fun j hj=>?_⟩
 ·rw[Array.getElem?_setIfInBounds_ne (by omega)];exact h3 j hj hn
 ·obtain⟨oo,c,e,hm,hh⟩:=h.kid j hj;refine⟨oo,c,e,hm,fun hp=>?_⟩;obtain⟨g,cu,e1,e2,e3,e4,e5⟩:=hh hp;exact⟨g,cu,e1,e2,e3,(heap_setCell_other _ _ _ _ (aP e4 h1 (by decide))).trans e4,e5⟩
theorem SpL.kidc(h:SpL w b0 b1 N n i ks ls){g:Nat}{cu:Array Value}(hg:w.heap[g]?=some (.cells cu 3 (0,0)))(o:Nat)(v:Value):SpL (w.setCell ⟨g,o,none⟩ v) b0 b1 N n i ks ls:=by
 obtain⟨cur,h1,h2,h3⟩:=h.row;refine⟨h.lo,h.hi,⟨cur,(heap_setCell_other _ _ _ _ (aP h1 hg (by decide))).trans h1,h2,h3⟩,fun j hj=>?_⟩;obtain⟨oo,c,e,hm,hh⟩:=h.kid j hj;refine⟨oo,c,e,hm,fun hp=>?_⟩;obtain⟨g',cu',e1,e2,e3,e4,e5⟩:=hh hp
 by_cases hgg:g'=g
 ·subst hgg;rw[hg]at e4
  cases e4
  exact⟨g',_,e1,e2,e3,block_setCell hg v,by simpa using e5⟩
 ·exact⟨g',cu',e1,e2,e3,(heap_setCell_other _ _ _ _ hgg).trans e4,e5⟩
theorem SpL.at(h:SpL w b0 b1 N n i ks ls)(j:Nat)(hj:i<=j)(hn:j<n):w.cell? ⟨N,j*6+4,none⟩=some (ks j)/\∀k,w.frozen? ⟨N,k,none⟩=false:=by
 obtain⟨cur,h1,h2,h3⟩:=h.row;exact⟨by rw[af h1];exact h3 j hj hn,fun k=>Lib.frozen_of_heap h1 k⟩
theorem SpL.any(h:SpL w b0 b1 N n i ks ls)(o:Nat)(ho:o<n*6):∃v,w.cell? ⟨N,o,none⟩=some v:=by
 obtain⟨cur,h1,h2,h3⟩:=h.row;exact⟨cur[o]'(by omega),by rw[af h1];exact Array.getElem?_eq_getElem (by omega)⟩
end
theorem DtD.spf{w w':World}{B P:Nat}{ns:List Tn}{m:Nat}{own:List Nat}{LV OV:Value}{xs:List Value}{ks:Nat->Value}{b0 b1:Nat}(h:DtD w B P ns m own LV OV xs ks)(hf:SpF b0 b1 w w')(hB:b1<=B):DtD w' B P ns m own LV OV xs ks :=
 ⟨bK h.row fun g cur hh _=>hf.block g (Or.inr (by have:=(bn h.row hh).1;omega)),h.cel,fun i hi=>bK (h.kid i hi) fun g cur hh _=>hf.block g (Or.inr (by have:=(bn (h.kid i hi) hh).1;omega)),h.apart,bK h.owr fun g cur hh _=>hf.block g (Or.inr (by have:=(bn h.owr hh).1;omega)),h.far,Nat.lt_of_lt_of_le h.hP hf.size⟩
open Go.RowKit Go.Maps Go.WideMaps Go.Joins
structure Dc(w:World)(N c:Nat)(ns:List Tn):Prop where
 tre:∃B m own OV xs ks,DtD w B 0 ns m own (.slice (some ⟨N,0,none⟩) ns.length c) OV xs ks/\WF ns own
 tv:∃S,Tv 100000 ns S
 len:ns.length<=1000000
 cap:ns.length<=c
 kid:∀i (hi:i<ns.length),ns[i].ks.length<=1000000
theorem Dc.grow{w w':World}{N c:Nat}{ns:List Tn}(h:Dc w N c ns)(hg:w.grownBy w' none):Dc w' N c ns:=by
 obtain⟨B,m,own,OV,xs,ks,hD,W⟩:=h.tre;exact⟨⟨B,m,own,OV,xs,ks,hD.gb hg,W⟩,h.tv,h.len,h.cap,h.kid⟩
theorem Dc.node{w:World}{N c:Nat}{ns:List Tn}(h:Dc w N c ns){i:Nat}(hi:i<ns.length):∃o m,w.cell? ⟨N,i*6,none⟩=some (.int .i64 ns[i].kd)/\w.cell? ⟨N,i*6+1,none⟩=some (.string ⟨ns[i].ky.toArray⟩)/\w.cell? ⟨N,i*6+2,none⟩=some (.string ⟨ns[i].tx.toArray⟩)/\w.cell? ⟨N,i*6+3,none⟩=some (.int .i64 ns[i].nu)/\w.cell? ⟨N,i*6+4,none⟩=some (.slice o ns[i].ks.length m)/\w.cell? ⟨N,i*6+5,none⟩=some (.int .i64 (ns[i].pl:Nat))/\NuS w (.slice o ns[i].ks.length m) ns[i].ks:=by
 obtain⟨B,m,own,OV,xs,ks,hD,W⟩:=h.tre;obtain⟨h0,h1,h2,h3,h4,h5,-⟩:=hD.node i hi;have hk:=NuS.of (hD.kid i hi);obtain⟨o,c',e,hh⟩:=hk;refine⟨o,c',h0,h1,h2,h3,?_,h5,o,c',rfl,hh⟩;rw[<-e];exact h4
theorem Dc.cKid{w:World}{N c:Nat}{ns:List Tn}(h:Dc w N c ns)(t:Nat)(ht:t<ns.length)(k:List UInt8) :
  Calls prog 14 #[.slice (some ⟨N,0,none⟩) ns.length c,.int .i64 (t:Nat),.string ⟨k.toArray⟩] w fun e w'=>e=.returned (.int .i64 (fB ns t k))/\w'=w:=by
 obtain⟨B,m,own,OV,xs,ks,hD,W⟩:=h.tre;exact Gj w B 0 ns m own N c OV xs ks t k hD W ht h.len
def ry(l:List Nat)(n:Nat):Int:=if n∈l then((dU l n).length:Int) else -1
theorem V5:∀(l:List Nat) (n i:Nat) (hi:i<l.length),(∀j (hj:j<l.length),j<i->¬l[j]=n)->l[i]=n->dU l n=l.take i
 | a :: r,n,0,_,_,h=>by
  have:a=n:=h;unfold dU;rw[List.takeWhile_cons,decide_eq_false (by simpa using this)];rfl
 | a :: r,n,i+1,hi,ha,h=>by
  have h0:¬a=n:=ha 0 (by simp) (by omega);unfold dU;rw[List.takeWhile_cons,decide_eq_true (by simpa using h0)];simp only[if_true,List.take_succ_cons];exact congrArg _ (V5 r n i (by simpa using hi) (fun j hj hji=>ha (j+1) (by simpa using hj) (by omega)) h)
theorem aeS{l:List Nat}{n i:Nat}(hi:i<l.length)(ha:∀j (hj:j<l.length),j<i->¬l[j]=n)(h:l[i]=n):ry l n=(i:Int):=by
 unfold ry;rw[if_pos (by rw[<-h];exact List.getElem_mem hi),V5 l n i hi ha h,List.length_take,Nat.min_eq_left (by omega)]
theorem aeT{l:List Nat}{n:Nat}(h:∀j (hj:j<l.length),¬l[j]=n):ry l n=-1:=by
 unfold ry;rw[if_neg];intro hm;obtain⟨j,hj,e⟩:=List.getElem_of_mem hm;exact h j hj e
theorem V6(w:World)(o:Option Addr)(m M:Nat)(l:List Nat)(n:Nat)(hM:l.length=M)(h:NuS w (.slice o M m) l)(hl:M<=1000000) :
  Calls prog 32 #[.slice o M m,.int .i64 (n:Nat)] w fun e w'=>e=.returned (.int .i64 (ry l n))/\w'=w:=by
 have HC:Hd (∀i (hi:i<l.length),∃g,o=some ⟨g,0,none⟩/\w.cell? ⟨g,i,none⟩=some (.int .i64 (l[i]:Nat))):=fun i hi=>by
  obtain⟨o',c',e,hh⟩:=h;injection e with e _ _
  rw[e];exact hh i hi
 have HM:Hd (l.length=M):=hM;obtain⟨r,hr⟩:=zN (ry l n);have HR:Hd (ry l n=r):=hr;rw[hr];clear h hM hr;go_enter func32,ntmps32;go_wp2;go_loopw [5] (fun vi wr=>∃i:Nat,vi=.int .i64 (i:Nat)/\i<=M/\(∀j (hj:j<l.length),j<i->¬l[j]=n)/\w=wr) (fun vi _=>M-(intOf vi).toNat)
 case atStart=>exact⟨0,rfl,by omega,fun j hj h=>absurd h (by omega),rfl⟩
 case round =>
  obtain⟨i,rfl,hi,hpre,rfl⟩:=hrel;have HP:Hd (∀j (hj:j<l.length),j<i->¬l[j]=n):=hpre;clear hpre
  by_cases hlt:i<M
  ·have hlt':i<l.length:=by rw[HM.o];exact hlt
   obtain⟨g,hg,cg⟩:=HC.o i hlt';obtain⟨q,hq⟩:=zN (l[i]);have HQ:Hd (l[i]=q):=hq;rw[hq]at cg;subst hg;clear hq
   by_cases e:q=n
   ·have hb:((q:Int) == (n:Int))=true:=by rw[e];simp
    have HRR:Hd (r=(i:Int)):=by
     show _=_;rw[<-HR.o,aeS hlt' HP.o (HQ.o.trans e)]
    clear e;go_wp2;go_ret;exact⟨dB HRR.o.symm,rfl⟩
   ·have hb:((q:Int) == (n:Int))=false:=by simpa using(show ¬(q:Int)=(n:Int) by omega)
    have HP2:Hd (∀j (hj:j<l.length),j<i+1->¬l[j]=n):=fun j hj hji=>by
     by_cases hj':j<i
     ·exact HP.o j hj hj'
     ·have e':j=i:=by omega
      subst e';rw[HQ.o];exact e
    clear e;go_wp2;refine⟨⟨i+1,by go_num,by omega,HP2.o,by first|trivial|rfl⟩,?_⟩;simp[intOf];omega
  ·have HRR:Hd (r=-1):=by
    show _=_;rw[<-HR.o,aeT fun j hj=>HP.o j hj (by rw[HM.o]at hj;omega)]
   go_wp2;go_ret;exact⟨dB HRR.o.symm,rfl⟩
theorem V7(w:World)(N c:Nat)(ns:List Tn)(h:Dc w N c ns)(i p:Nat)(hp:i∈ae ns p) :
  Calls prog 31 #[.slice (some ⟨N,0,none⟩) ns.length c,.int .i64 (i:Nat)] w fun e w'=>e=.returned (.int .i64 (p:Nat))/\w'=w:=by
 obtain⟨S,T⟩:=h.tv;have HP:Hd (i∈ae ns p/\p<ns.length/\∀q,i∈ae ns q->q=p):=⟨hp,xw hp,fun q hq=>T.uni _ _ _ hq hp⟩;have CI:Hd (∀k (hk:k<ns.length),∃o m,w.cell? ⟨N,k*6+4,none⟩=some (.slice o ns[k].ks.length m)/\Calls prog 32 #[.slice o ns[k].ks.length m,.int .i64 (i:Nat)] w fun e w'=>e=.returned (.int .i64 (ry (ae ns k) i))/\w'=w):=fun k hk=>by
  obtain⟨o,m,-,-,-,-,h4,-,hn⟩:=h.node hk;refine⟨o,m,h4,?_⟩;have e:ae ns k=ns[k].ks:=by unfold ae;rw[List.getElem?_eq_getElem hk]
  rw[e];exact V6 w o m _ ns[k].ks i rfl hn (h.kid k hk)
 have hl:=h.len;have hc:=h.cap;obtain⟨L,hL⟩:=zN (ns.length);have HL:Hd (ns.length=L):=hL;rw[hL]at hl hc ⊢;clear h hp hL T;go_enter func31,ntmps31;go_wp2;go_loopw [5] (fun vi wr=>∃k:Nat,vi=.int .i64 (k:Nat)/\k<=L/\(∀j,j<k->¬i∈ae ns j)/\w=wr) (fun vi _=>L-(intOf vi).toNat)
 case atStart=>exact⟨0,rfl,by omega,fun j h=>absurd h (by omega),rfl⟩
 case round =>
  obtain⟨k,rfl,hk,hpre,rfl⟩:=hrel;have HQ:Hd (∀j,j<k->¬i∈ae ns j):=hpre;clear hpre
  by_cases hlt:k<L
  ·obtain⟨o,m,c4,CC⟩:=CI.o k (by rw[HL.o];exact hlt);obtain⟨x,hx⟩:∃x,(ns[k]'(by rw[HL.o];exact hlt)).ks.length=x:=⟨_,rfl⟩;rw[hx]at c4 CC
   by_cases e:i∈ae ns k
   ·have HE:Hd (k=p):=HP.o.2.2 k e;obtain⟨z,hz⟩:∃z:Nat,(dU (ae ns k) i).length=z:=⟨_,rfl⟩;have CX:Hd (Calls prog 32 #[.slice o x m,.int .i64 (i:Nat)] w fun e w'=>e=.returned (.int .i64 (z:Nat))/\w=w'):=CC.mono fun e' w' hh=>by
     refine⟨?_,hh.2.symm⟩;rw[hh.1];unfold ry;rw[if_pos e,hz]
    have hzz:(0:Int)<=(z:Int):=by omega
    clear e CC hx hz;go_wp2_with (go_at_call 32;refine CX.o.mono ?_;rintro e' w' ⟨rfl,rfl⟩);go_ret;exact⟨dB (show(k:Int)=(p:Int) by rw[HE.o]),rfl⟩
   ·have jh:Hd (∀j,j<k+1->¬i∈ae ns j):=fun j hj=>by
     by_cases hj':j<k
     ·exact HQ.o j hj'
     ·rw[show j=k by omega];exact e
    have CX:Hd (Calls prog 32 #[.slice o x m,.int .i64 (i:Nat)] w fun e w'=>e=.returned (.int .i64 (-1))/\w=w'):=CC.mono fun e' w' hh=>by
     refine⟨?_,hh.2.symm⟩;rw[hh.1];unfold ry;rw[if_neg e]
    clear e CC hx;go_wp2_with (go_at_call 32;refine CX.o.mono ?_;rintro e' w' ⟨rfl,rfl⟩);refine⟨⟨k+1,by go_num,by omega,jh.o,by first|trivial|rfl⟩,?_⟩;simp[intOf];omega
  ·exact absurd HP.o.1 (HQ.o p (by have:=HP.o.2.1;rw[HL.o]at this;omega))
open Go.RowKit Go.Maps Go.WideMaps Go.Joins
theorem aeU{x:Tn}{is:ByteArray->Bool}(h3:x.kd=3):takeD x is=if is (dh x)=true then 0 else 2:=by unfold takeD;rw[if_neg (by simpa using h3)]
theorem V8(w:World)(x:Tn)(o:Option Addr)(m c:Nat)(what:Int)(is:ByteArray->Bool)(hw:(what=0/\is=nameB)\/(what=1/\is=okV)\/(what=2/\is=pK))(htx:x.tx.length<=100000) :
  Calls prog 57 #[.agg (dK x (.slice o m c)),.int .i64 what] w fun e w'=>e=.returned (.int .i64 (takeD x is))/\w.grownBy w' none:=by
 obtain⟨kd,ky,tx,nu,ks,pl⟩:=x;unfold dK;simp only[]at htx ⊢;have hsz:(⟨tx.toArray⟩:ByteArray).size<=100000:=by
  show tx.toArray.size<=_;rw[List.size_toArray];exact htx
 obtain⟨TX,dW⟩:∃t:ByteArray,⟨tx.toArray⟩=t:=⟨_,rfl⟩;have ng:Hd ((⟨tx.toArray⟩:ByteArray)=TX):=dW;rw[dW]at hsz ⊢;obtain⟨W,hW⟩:=zN (w.alloc (.cells #[.int .i64 kd,.string ⟨ky.toArray⟩,.string TX,.int .i64 nu,.slice o m c,.int .i64 (pl:Nat)] 45));have HG:Hd (w.grownBy W none):=hW ▸ dn (ak w none) _;have hB:W.heap[w.heap.size]?=some (.cells #[.int .i64 kd,.string ⟨ky.toArray⟩,.string TX,.int .i64 nu,.slice o m c,.int .i64 (pl:Nat)] 45 (0,0)):=by rw[<-hW];exact heap_alloc_new _ _
 have c0:W.cell? ⟨w.heap.size,0,none⟩=some (.int .i64 kd):=by rw[af hB];rfl
 have c2:W.cell? ⟨w.heap.size,2,none⟩=some (.string TX):=by rw[af hB];rfl
 have CN:Hd (Calls prog 85 #[.string TX] W fun e w'=>e=.returned (.bool (nameB TX))/\Hd (W.grownBy w' none)):=(aak TX W (by omega)).mono fun e w' h=>⟨h.1,h.2 ▸ ak _ none⟩
 have CV:Hd (Calls prog 86 #[.string TX] W fun e w'=>e=.returned (.bool (okV TX))/\Hd (W.grownBy w' none)):=abN TX W (by omega);have CD:Hd (Calls prog 87 #[.string TX] W fun e w'=>e=.returned (.bool (pK TX))/\Hd (W.grownBy w' none)):=(Zu TX W (by unfold maxLen;omega)).mono fun e w' h=>⟨h.1,h.2 ▸ ak _ none⟩
 clear hB hsz
 by_cases h3:kd=3
 ·obtain⟨z,hz⟩:=zN (takeD ⟨kd,ky,tx,nu,ks,pl⟩ is);have HZ:Hd ((is TX=true->z=0)/\(is TX=false->z=2)):=by
   have:=aeU (x:=⟨kd,ky,tx,nu,ks,pl⟩) (is:=is) h3;rw[hz,show dh ⟨kd,ky,tx,nu,ks,pl⟩=TX from dW]at this;exact⟨fun h=>by rw[this,if_pos h],fun h=>by rw[this,if_neg (by rw[h];decide)]⟩
  rw[hz];subst h3;clear hz dW htx
  rcases hw with⟨rfl,rfl⟩|⟨rfl,rfl⟩|⟨rfl,rfl⟩
  ·go_enter func57,ntmps57;go_wp2_with (go_at_call 85;refine CN.o.mono ?_);rintro e w2 ⟨rfl,hg2⟩
   cases hb:nameB TX with
   | true=>go_wp2;go_ret;exact⟨dB (HZ.o.1 hb).symm,ai HG.o hg2.o⟩
   | false=>go_wp2;go_ret;exact⟨dB (HZ.o.2 hb).symm,ai HG.o hg2.o⟩
  ·go_enter func57,ntmps57;go_wp2_with (go_at_call 86;refine CV.o.mono ?_);rintro e w2 ⟨rfl,hg2⟩
   cases hb:okV TX with
   | true=>go_wp2;go_ret;exact⟨dB (HZ.o.1 hb).symm,ai HG.o hg2.o⟩
   | false=>go_wp2;go_ret;exact⟨dB (HZ.o.2 hb).symm,ai HG.o hg2.o⟩
  ·go_enter func57,ntmps57;go_wp2_with (go_at_call 87;refine CD.o.mono ?_);rintro e w2 ⟨rfl,hg2⟩
   cases hb:pK TX with
   | true=>go_wp2;go_ret;exact⟨dB (HZ.o.1 hb).symm,ai HG.o hg2.o⟩
   | false=>go_wp2;go_ret;exact⟨dB (HZ.o.2 hb).symm,ai HG.o hg2.o⟩
 ·have hb:(kd != 3)=true:=by simpa using h3
  have hz:takeD ⟨kd,ky,tx,nu,ks,pl⟩ is=7:=by unfold takeD;rw[if_pos h3]
  rw[hz];clear hz dW htx hw;go_enter func57,ntmps57;go_wp2;go_ret;exact⟨rfl,HG.o⟩
theorem V9{α:Type}(p:α->Bool)(l:List α)(k:Nat)(hk:k<l.length):(l.take (k+1)).any p=((l.take k).any p || p l[k]):=by
 rw[List.take_succ_eq_append_getElem hk,List.any_append];simp
theorem Oi:∀(l:List Nat) (n:Nat),n∈l->∃h:(dU l n).length<l.length,l[(dU l n).length]=n/\dU l n=l.take (dU l n).length/\∀j (hj:j<l.length),j<(dU l n).length->¬l[j]=n
 | a :: r,n,hm=>by
  by_cases e:a=n
  ·have h0:dU (a :: r) n=[]:=by unfold dU;rw[List.takeWhile_cons,decide_eq_false (by simpa using e)];rfl
   simp only[h0,List.length_nil,List.take_zero,true_and];exact⟨by simp,by simpa using e,fun j hj hlt=>absurd hlt (by omega)⟩
  ·have hr:n∈r:=by rcases List.mem_cons.1 hm with h|h;exact absurd h.symm e;exact h
   obtain⟨h1,h2,h3,h4⟩:=Oi r n hr;have h0:dU (a :: r) n=a :: dU r n:=by unfold dU;rw[List.takeWhile_cons,decide_eq_true (by simpa using e)];rfl
   simp only[h0,List.length_cons,List.take_succ_cons];refine⟨by omega,by simpa using h2,by rw[<-h3],fun j hj hlt=>?_⟩
   cases j with
   | zero=>simpa using e
   | succ j=>simpa using h4 j (by simpa using hj) (by omega)
theorem aeV(w:World)(N c:Nat)(ns:List Tn)(h:Dc w N c ns)(al t i:Nat)(hi:i<ns.length)(ht:t∈ae ns al) :
  Calls prog 33 #[.slice (some ⟨N,0,none⟩) ns.length c,.int .i64 (al:Nat),.int .i64 (t:Nat),.int .i64 (i:Nat)] w fun e w'=>e=.returned (.int .i64 (lY ns al t ns[i]))/\w.grownBy w' none:=by
 have HD:Hd (Dc w N c ns):=h;obtain⟨S,T⟩:=h.tv;have hal:=xw ht;have nT:ae ns al=(ns[al]'hal).ks:=by unfold ae;rw[List.getElem?_eq_getElem hal]
 obtain⟨hK,hK1,hK2,hK3⟩:=Oi (ae ns al) t ht;obtain⟨K,iR⟩:=zN ((dU (ae ns al) t).length);have HA:Hd ((dU (ae ns al) t).length=K/\K<(ae ns al).length/\(∀h:K<(ae ns al).length,(ae ns al)[K]=t)/\dU (ae ns al) t=(ae ns al).take K/\(∀j (hj:j<(ae ns al).length),j<K->¬(ae ns al)[j]=t)):=by
  subst iR;exact⟨rfl,hK,fun _=>hK1,hK2,hK3⟩
 have cZ:Hd (∀k (hk:k<(ae ns al).length),(ae ns al)[k]<ns.length):=fun k hk=>T.lt al _ (List.getElem_mem hk)
 have kP:Hd (∀w',w.grownBy w' none->∃oA mA,w'.cell? ⟨N,al*6+4,none⟩=some (.slice oA (ae ns al).length mA)/\∀k (hk:k<(ae ns al).length),∃g,oA=some ⟨g,0,none⟩/\w'.cell? ⟨g,k,none⟩=some (.int .i64 ((ae ns al)[k]:Nat))):=fun w' hg=>by
  obtain⟨o,m,-,-,-,-,h4,-,o',m',e,hn⟩:=(h.grow hg).node hal;rw[<-nT]at h4 e hn;refine⟨o,m,h4,fun k hk=>?_⟩;injection e with e _ _
  rw[e];exact hn k hk
 have hAl:(ae ns al).length<=1000000:=by rw[nT];exact h.kid al hal
 have CK:Hd (∀q,q<ns.length->∀w',w.grownBy w' none->Calls prog 14 #[.slice (some ⟨N,0,none⟩) ns.length c,.int .i64 (q:Nat),.string ⟨#[110,97,109,101]⟩] w' fun e w''=>e=.returned (.int .i64 (fB ns q fA))/\w'=w''):=fun q hq w' hg=>((h.grow hg).cKid q hq fA).mono fun e w'' hh=>⟨hh.1,hh.2.symm⟩
 have oM:Hd (∀q (hq:q<ns.length),∀w',w.grownBy w' none->w'.cell? ⟨N,q*6+2,none⟩=some (.string (aQ ns q))):=fun q hq w' hg=>by
  obtain⟨-,-,-,-,h2,-⟩:=(h.grow hg).node hq;show _=_;unfold aQ;rw[List.getElem?_eq_getElem hq];exact h2
 obtain⟨o,m,e0,e1,e2,e3,e4,e5,-⟩:=h.node hi;have htx:=(T.txt _ (List.getElem_mem hi)).2.1;obtain⟨x,hx⟩:=zN (ns[i]);rw[hx]at e0 e1 e2 e3 e4 e5 htx ⊢;have hc:=h.cap;have hl:=h.len;obtain⟨L,hL⟩:=zN (ns.length);have HL:Hd (ns.length=L):=hL;have CP:Hd (∀w' (what:Int) (is:ByteArray->Bool),((what=0/\is=nameB)\/(what=1/\is=okV)\/(what=2/\is=pK))->Calls prog 57 #[.agg (dK x (.slice o x.ks.length m)),.int .i64 what] w' fun e w''=>e=.returned (.int .i64 (takeD x is))/\Hd (w'.grownBy w'' none)):=fun w' what is hw=>V8 w' x o _ m what is hw htx
 obtain⟨R,hR⟩:=zN (lY ns al t x);have HR:Hd (lY ns al t x=R):=hR;rw[hR];obtain⟨kd,ky,tx,nu,ks,pl⟩:=x;obtain⟨KY,gU⟩:∃t:ByteArray,⟨ky.toArray⟩=t:=⟨_,rfl⟩;obtain⟨TX,dW⟩:∃t:ByteArray,⟨tx.toArray⟩=t:=⟨_,rfl⟩;have dY:Hd ((⟨ky.toArray⟩:ByteArray)=KY):=gU;have ng:Hd (dh ⟨kd,ky,tx,nu,ks,pl⟩=TX):=dW;obtain⟨M,hM⟩:=zN (ks.length);unfold dK at CP;simp only[]at e0 e1 e2 e3 e4 e5 CP;rw[hL]at hi hal hc hl CK ⊢;rw[gU,hM]at CP;rw[dW]at CP e2;rw[gU]at e1;rw[hM]at e4;obtain⟨bx,hbx⟩:=zN (w.heap.size);obtain⟨W,hW⟩:=zN (w.alloc (.cells #[.int .i64 kd,.string KY,.string TX,.int .i64 nu,.slice o M m,.int .i64 (pl:Nat)] 45));have HG:Hd (w.grownBy W none):=hW ▸ dn (ak w none) _;have hB:W.heap[bx]?=some (.cells #[.int .i64 kd,.string KY,.string TX,.int .i64 nu,.slice o M m,.int .i64 (pl:Nat)] 45 (0,0)):=by rw[<-hW,<-hbx];exact heap_alloc_new _ _
 have b0:W.cell? ⟨bx,0,none⟩=some (.int .i64 kd):=by rw[af hB];rfl
 have b1:W.cell? ⟨bx,1,none⟩=some (.string KY):=by rw[af hB];rfl
 have b2:W.cell? ⟨bx,2,none⟩=some (.string TX):=by rw[af hB];rfl
 have b3:W.cell? ⟨bx,3,none⟩=some (.int .i64 nu):=by rw[af hB];rfl
 have b4:W.cell? ⟨bx,4,none⟩=some (.slice o M m):=by rw[af hB];rfl
 have b5:W.cell? ⟨bx,5,none⟩=some (.int .i64 (pl:Nat)):=by rw[af hB];rfl
 have HW:Hd (w.alloc (.cells #[.int .i64 kd,.string KY,.string TX,.int .i64 nu,.slice o M m,.int .i64 (pl:Nat)] 45)=W/\w.heap.size=bx):=⟨hW,hbx⟩;have We:=CP.o W 0 nameB (Or.inl ⟨rfl,rfl⟩);have uh:=CP.o W 1 okV (Or.inr (Or.inl ⟨rfl,rfl⟩));have wY:=CP.o W 2 pK (Or.inr (Or.inr ⟨rfl,rfl⟩));have sZ:Hd (Calls prog 57 #[.agg #[.int .i64 kd,.string KY,.string TX,.int .i64 nu,.slice o M m,.int .i64 (pl:Nat)],.int .i64 0] W fun e w''=>e=.returned (.int .i64 (takeD ⟨kd,ky,tx,nu,ks,pl⟩ nameB))/\Hd (W.grownBy w'' none)):=We;have qy:Hd (Calls prog 57 #[.agg #[.int .i64 kd,.string KY,.string TX,.int .i64 nu,.slice o M m,.int .i64 (pl:Nat)],.int .i64 1] W fun e w''=>e=.returned (.int .i64 (takeD ⟨kd,ky,tx,nu,ks,pl⟩ okV))/\Hd (W.grownBy w'' none)):=uh;have HC2:Hd (Calls prog 57 #[.agg #[.int .i64 kd,.string KY,.string TX,.int .i64 nu,.slice o M m,.int .i64 (pl:Nat)],.int .i64 2] W fun e w''=>e=.returned (.int .i64 (takeD ⟨kd,ky,tx,nu,ks,pl⟩ pK))/\Hd (W.grownBy w'' none)):=wY
 clear h T nT hK hK1 hK2 hK3 iR hR hx hL gU dW hM hB hbx hW CP We uh wY htx ht
 by_cases k1:ky=fA
 ·have hb1:(KY.toList == [110,97,109,101])=true:=(ja dY.o).1 k1;obtain⟨z0,hz0⟩:=zN (takeD ⟨kd,ky,tx,nu,ks,pl⟩ nameB);rw[hz0]at sZ;have HR1:Hd (R=if z0=0 then(if(dU (ae ns al) t).any (jS ns TX)=true then 5 else 0) else z0):=by
   show _=_;rw[<-HR.o];unfold lY;rw[if_pos k1,hz0,ng.o]
  clear k1 hz0 HR qy HC2;go_enter func33,ntmps33;go_upto_region 2 with fail
  try rw[HW.o.1]
  try rw[HW.o.2]
  go_wp2_with (go_at_call 57;refine sZ.o.mono ?_);rintro e w2 ⟨rfl,hg2⟩;have HG2:Hd (w.grownBy w2 none):=ai HG.o hg2.o;have b22:=hg2.o.cell b2 (by simp);have HB2:Hd (w2.cell? ⟨bx,2,none⟩=some (.string TX)):=b22;clear b0 b1 b2 b3 b4 b5 e0 e1 e2 e3 e4 e5 hg2 b22 HG sZ
  by_cases hz:z0=0
  ·subst hz;go_wp2;go_loopw [10,11] (fun v10 v11 wr=>∃k:Nat,v11=.int .i64 (k:Nat)/\k<=K/\((v10=.int .i64 0/\((ae ns al).take k).any (jS ns TX)=false)\/(v10=.int .i64 5/\((ae ns al).take K).any (jS ns TX)=true))/\w.grownBy wr none/\wr.cell? ⟨bx,2,none⟩=some (.string TX)) (fun v10 v11 _=>if intOf v10=0 then K-(intOf v11).toNat+1 else 0)
   case atStart=>exact⟨0,rfl,Nat.zero_le _,Or.inl ⟨rfl,rfl⟩,HG2.o,HB2.o⟩
   case round =>
    obtain⟨k,rfl,hk,hv,hg,hb2⟩:=hrel;have nU:Hd (w.grownBy wr none):=hg;have Oj:Hd (wr.cell? ⟨bx,2,none⟩=some (.string TX)):=hb2
    rcases hv with⟨rfl,hno⟩|⟨rfl,hyes⟩
    ·have qm:Hd (((ae ns al).take k).any (jS ns TX)=false):=hno;obtain⟨oA,mA,cA,hA⟩:=kP.o wr hg;have hkl:k<(ae ns al).length:=Nat.lt_of_le_of_lt hk HA.o.2.1;obtain⟨g,rfl,cg⟩:=hA k hkl;obtain⟨q,hq⟩:=zN ((ae ns al)[k]);obtain⟨lA,hlA⟩:=zN ((ae ns al).length);have HQ:Hd ((ae ns al)[k]=q):=hq;have dL:=cZ.o k hkl;have aeW:lA<=1000000:=by rw[<-hlA];exact hAl
     have hkl':k<lA:=by rw[<-hlA];exact hkl
     rw[hq]at cg;rw[hlA]at cA;rw[hq,HL.o]at dL;have yN:Hd (q<L):=dL
     by_cases nV:k=K
     ·have jJ:q=t:=by rw[<-hq];subst nV;exact HA.o.2.2.1 hkl
      have hb:((q:Int) != (t:Int))=false:=by rw[jJ];simp
      have HF:Hd (R=0):=by
       show _=_;rw[HR1.o,if_pos (by trivial),HA.o.2.2.2.1,<-nV,qm.o];rfl
      clear hno hg hb2 hA hq nV jJ hlA hAl;go_wp2;go_ret;exact⟨dB HF.o.symm,nU.o⟩
     ·have jJ:¬q=t:=by rw[<-hq];exact HA.o.2.2.2.2 k hkl (by omega)
      have hb:((q:Int) != (t:Int))=true:=by simpa using(show ¬(q:Int)=(t:Int) by omega)
      have aeX:k<K:=by omega
      have HST:Hd (((ae ns al).take (k+1)).any (jS ns TX)=jS ns TX q):=by
       show _=_;rw[V9 _ _ _ hkl,qm.o,Bool.false_or,HQ.o]
      have Il:Hd (jS ns TX q=true->((ae ns al).take K).any (jS ns TX)=true):=fun hh=>by
       rw[List.any_eq_true];exact⟨q,List.mem_take_iff_getElem.2 ⟨k,by omega,HQ.o⟩,hh⟩
      have uO:=CK.o q dL wr hg
      cases hko:ah ns q fA with
      | none =>
       have hx0:jS ns TX q=false:=by unfold jS;rw[hko]
       have yA:Hd (Calls prog 14 #[.slice (some ⟨N,0,none⟩) L c,.int .i64 (q:Nat),.string ⟨#[110,97,109,101]⟩] wr fun e w''=>e=.returned (.int .i64 (-1))/\wr=w''):=uO.mono fun e w'' hh=>by
        refine⟨?_,hh.2⟩;rw[hh.1];unfold fB;rw[hko]
       have gX:Hd (((ae ns al).take (k+1)).any (jS ns TX)=false):=by show _=_;rw[HST.o,hx0]
       clear hno hg hb2 hA hq nV jJ hlA hAl hko hx0 uO HST Il;go_wp2_with (go_at_call 14;refine yA.o.mono ?_;rintro e w'' ⟨rfl,rfl⟩);go_quiet (fail);go_wp2;refine⟨⟨k+1,by go_num,by omega,Or.inl ⟨rfl,gX.o⟩,au nU.o nq,(au (ak wr none) nq).cell Oj.o (by simp)⟩,?_⟩;simp[intOf];omega
      | some y =>
       have hyl:y<ns.length:=HD.o.tv.choose_spec.lt _ _ (iK hko).1;have hx0:jS ns TX q=decide (aQ ns y=TX):=by unfold jS;rw[hko]
       have cy:=oM.o y hyl wr hg;rw[HL.o]at hyl;have yA:Hd (Calls prog 14 #[.slice (some ⟨N,0,none⟩) L c,.int .i64 (q:Nat),.string ⟨#[110,97,109,101]⟩] wr fun e w''=>e=.returned (.int .i64 (y:Nat))/\wr=w''):=uO.mono fun e w'' hh=>by
        refine⟨?_,hh.2⟩;rw[hh.1];unfold fB;rw[hko]
       obtain⟨Y,hY⟩:=zN (aQ ns y);rw[hY]at cy hx0;have hyg:decide ((y:Int) ≥ 0)=true:=by simp
       by_cases hYT:Y=TX
       ·have hs:(Y.toList == TX.toList)=true:=by rw[hYT];simp
        have EG:Hd (((ae ns al).take K).any (jS ns TX)=true):=Il.o (by rw[hx0];exact decide_eq_true hYT);clear hno hg hA hq nV jJ hlA hAl hko hx0 uO HST Il hY hYT;go_wp2_with (go_at_call 14;refine yA.o.mono ?_;rintro e w'' ⟨rfl,rfl⟩);go_quiet (fail);go_wp2;refine⟨⟨k+1,by go_num,by omega,Or.inr ⟨rfl,EG.o⟩,au nU.o nq,(au (ak wr none) nq).cell Oj.o (by simp)⟩,?_⟩;simp[intOf]
       ·have hs:(Y.toList == TX.toList)=false:=Ce hYT;have gX:Hd (((ae ns al).take (k+1)).any (jS ns TX)=false):=by show _=_;rw[HST.o,hx0];exact decide_eq_false hYT
        clear hno hg hA hq nV jJ hlA hAl hko hx0 uO HST Il hY hYT;go_wp2_with (go_at_call 14;refine yA.o.mono ?_;rintro e w'' ⟨rfl,rfl⟩);go_quiet (fail);go_wp2;refine⟨⟨k+1,by go_num,by omega,Or.inl ⟨rfl,gX.o⟩,au nU.o nq,(au (ak wr none) nq).cell Oj.o (by simp)⟩,?_⟩;simp[intOf];omega
    ·have HF:Hd (R=5):=by
      show _=_;rw[HR1.o,if_pos (by trivial),HA.o.2.2.2.1,if_pos hyes]
     clear hyes hg hb2 hAl;go_wp2;go_ret;exact⟨dB HF.o.symm,nU.o⟩
  ·have hb:(z0 == 0)=false:=by simpa using hz
   have HF:Hd (R=z0):=by show _=_;rw[HR1.o,if_neg hz]
   clear hAl;go_wp2;go_loopw [10,11] (fun v10 v11 wr=>v10=.int .i64 z0/\v11=.int .i64 0/\w.grownBy wr none) (fun _ _ _=>0)
   case atStart=>exact⟨rfl,rfl,HG2.o⟩
   case round =>
    obtain⟨rfl,rfl,hg⟩:=hrel;have nU:Hd (w.grownBy wr none):=hg;clear hg hz;go_wp2;go_ret;exact⟨dB HF.o.symm,nU.o⟩
 ·have hb1:(KY.toList == [110,97,109,101])=false:=(ja dY.o).2 k1;clear hAl
  by_cases k2:ky=iC
  ·have hb2:(KY.toList == [118,101,114,115,105,111,110])=true:=(ja dY.o).1 k2;have HF:Hd (takeD ⟨kd,ky,tx,nu,ks,pl⟩ okV=R):=by
    show _=_;rw[<-HR.o];unfold lY;rw[if_neg k1,if_pos k2]
   rw[HF.o]at qy;clear k1 k2 HR sZ HC2;go_enter func33,ntmps33;go_upto_region 2 with fail
   try rw[HW.o.1]
   try rw[HW.o.2]
   go_wp2_with (go_at_call 57;refine qy.o.mono ?_;rintro e w2 ⟨rfl,hg2⟩);go_ret;exact⟨rfl,ai HG.o hg2.o⟩
  ·have hb2:(KY.toList == [118,101,114,115,105,111,110])=false:=(ja dY.o).2 k2
   by_cases k3:ky=iy
   ·have hb3:(KY.toList == [100,105,103,101,115,116])=true:=(ja dY.o).1 k3;have HF:Hd (takeD ⟨kd,ky,tx,nu,ks,pl⟩ pK=R):=by
     show _=_;rw[<-HR.o];unfold lY;rw[if_neg k1,if_neg k2,if_pos k3]
    rw[HF.o]at HC2;clear k1 k2 k3 HR sZ qy;go_enter func33,ntmps33;go_upto_region 2 with fail
    try rw[HW.o.1]
    try rw[HW.o.2]
    go_wp2_with (go_at_call 57;refine HC2.o.mono ?_;rintro e w2 ⟨rfl,hg2⟩);go_ret;exact⟨rfl,ai HG.o hg2.o⟩
   ·have hb3:(KY.toList == [100,105,103,101,115,116])=false:=(ja dY.o).2 k3;have uY:Hd (R=if ky=dV/\kd=1 then 0 else 7):=by
     show _=_;rw[<-HR.o];unfold lY;rw[if_neg k1,if_neg k2,if_neg k3]
    by_cases k4:ky=dV
    ·have hb4:(KY.toList == [110,101,101,100,115])=true:=(ja dY.o).1 k4
     by_cases k5:kd=1
     ·have hb5:(kd == 1)=true:=by simpa using k5
      have HF:Hd (R=0):=by show _=_;rw[uY.o,if_pos ⟨k4,k5⟩]
      clear k1 k2 k3 k4 k5 HR sZ qy HC2 uY;go_enter func33,ntmps33;go_upto_region 2 with fail
      try rw[HW.o.1]
      try rw[HW.o.2]
      go_wp2;go_ret;exact⟨dB HF.o.symm,HG.o⟩
     ·have hb5:(kd == 1)=false:=by simpa using k5
      have HF:Hd (R=7):=by show _=_;rw[uY.o,if_neg (fun h=>k5 h.2)]
      clear k1 k2 k3 k4 k5 HR sZ qy HC2 uY;go_enter func33,ntmps33;go_upto_region 2 with fail
      try rw[HW.o.1]
      try rw[HW.o.2]
      go_wp2;go_ret;exact⟨dB HF.o.symm,HG.o⟩
    ·have hb4:(KY.toList == [110,101,101,100,115])=false:=(ja dY.o).2 k4;have HF:Hd (R=7):=by show _=_;rw[uY.o,if_neg (fun h=>k4 h.1)]
     clear k1 k2 k3 k4 HR sZ qy HC2 uY;go_enter func33,ntmps33;go_upto_region 2 with fail
     try rw[HW.o.1]
     try rw[HW.o.2]
     go_wp2;go_ret;exact⟨dB HF.o.symm,HG.o⟩
open Go.RowKit Go.Maps Go.WideMaps Go.Joins
theorem aeY(w:World)(N c:Nat)(ns:List Tn)(h:Dc w N c ns)(al i:Nat)(hi:i<ns.length)(ht:i∈ae ns al) :
  Calls prog 34 #[.slice (some ⟨N,0,none⟩) ns.length c,.int .i64 (al:Nat),.int .i64 (i:Nat)] w fun e w'=>e=.returned (.int .i64 (pV ns al i ns[i]))/\w.grownBy w' none:=by
 obtain⟨S,T⟩:=h.tv;have hal:=xw ht;have nT:ae ns al=(ns[al]'hal).ks:=by unfold ae;rw[List.getElem?_eq_getElem hal]
 obtain⟨hK,hK1,hK2,hK3⟩:=Oi (ae ns al) i ht;obtain⟨K,iR⟩:=zN ((dU (ae ns al) i).length);have HA:Hd ((dU (ae ns al) i).length=K/\K<(ae ns al).length/\(∀h:K<(ae ns al).length,(ae ns al)[K]=i)/\dU (ae ns al) i=(ae ns al).take K/\(∀j (hj:j<(ae ns al).length),j<K->¬(ae ns al)[j]=i)):=by
  subst iR;exact⟨rfl,hK,fun _=>hK1,hK2,hK3⟩
 have cZ:Hd (∀k (hk:k<(ae ns al).length),(ae ns al)[k]<ns.length):=fun k hk=>T.lt al _ (List.getElem_mem hk)
 have kP:Hd (∀w',w.grownBy w' none->∃oA mA,w'.cell? ⟨N,al*6+4,none⟩=some (.slice oA (ae ns al).length mA)/\∀k (hk:k<(ae ns al).length),∃g,oA=some ⟨g,0,none⟩/\w'.cell? ⟨g,k,none⟩=some (.int .i64 ((ae ns al)[k]:Nat))):=fun w' hg=>by
  obtain⟨o,m,-,-,-,-,h4,-,o',m',e,hn⟩:=(h.grow hg).node hal;rw[<-nT]at h4 e hn;refine⟨o,m,h4,fun k hk=>?_⟩;injection e with e _ _
  rw[e];exact hn k hk
 have hAl:(ae ns al).length<=1000000:=by rw[nT];exact h.kid al hal
 have oM:Hd (∀q (hq:q<ns.length),∀w',w.grownBy w' none->w'.cell? ⟨N,q*6+2,none⟩=some (.string (aQ ns q))):=fun q hq w' hg=>by
  obtain⟨-,-,-,-,h2,-⟩:=(h.grow hg).node hq;show _=_;unfold aQ;rw[List.getElem?_eq_getElem hq];exact h2
 obtain⟨o,m,e0,e1,e2,e3,e4,e5,-⟩:=h.node hi;have htx:=(T.txt _ (List.getElem_mem hi)).2.1;have Ol:Hd (aQ ns i=dh ns[i]):=by show _=_;unfold aQ;rw[List.getElem?_eq_getElem hi]
 obtain⟨x,hx⟩:=zN (ns[i]);rw[hx]at e0 e1 e2 e3 e4 e5 htx Ol ⊢;have hc:=h.cap;have hl:=h.len;obtain⟨L,hL⟩:=zN (ns.length);have HL:Hd (ns.length=L):=hL;have CP:Calls prog 57 #[.agg (dK x (.slice o x.ks.length m)),.int .i64 0] w fun e w''=>e=.returned (.int .i64 (takeD x nameB))/\Hd (w.grownBy w'' none):=V8 w x o _ m 0 nameB (Or.inl ⟨rfl,rfl⟩) htx
 obtain⟨R,hR⟩:=zN (pV ns al i x);obtain⟨z0,hz0⟩:=zN (takeD x nameB);obtain⟨TX,dW⟩:∃t:ByteArray,dh x=t:=⟨_,rfl⟩;rw[dW]at Ol;have HR1:Hd (R=if z0=0 then(if((ae ns al).take K).any (fun k=>decide (aQ ns k=TX))=true then 5 else if 20<=K then 4 else 0) else z0):=by
  show _=_;rw[<-hR];unfold pV;rw[hz0,HA.o.1,HA.o.2.2.2.1,dW]
 rw[hR];rw[hz0]at CP;obtain⟨kd,ky,tx,nu,ks,pl⟩:=x;unfold dK at CP;simp only[]at e0 e1 e2 e3 e4 e5 CP;have Wh:Hd (Calls prog 57 #[.agg #[.int .i64 kd,.string ⟨ky.toArray⟩,.string ⟨tx.toArray⟩,.int .i64 nu,.slice o ks.length m,.int .i64 (pl:Nat)],.int .i64 0] w fun e w''=>e=.returned (.int .i64 z0)/\Hd (w.grownBy w'' none)):=CP;rw[hL]at hi hal hc hl ⊢;clear h T nT hK hK1 hK2 hK3 iR hR hx hL dW CP htx ht hz0;go_enter func34,ntmps34;go_wp2_with (go_at_call 57;refine Wh.o.mono ?_);rintro e w2 ⟨rfl,hg2⟩;have HG2:Hd (w.grownBy w2 none):=hg2.o;clear e0 e1 e2 e3 e4 e5 hg2 Wh;go_wp2;go_loopw [7,8] (fun v7 v8 wr=>∃(k:Nat) (z:Int),v8=.int .i64 (k:Nat)/\k<=K/\v7=.int .i64 z/\z=(if z0=0 then(if((ae ns al).take k).any (fun k=>decide (aQ ns k=TX))=true then 5 else 0) else z0)/\w.grownBy wr none) (fun _ v8 _=>K-(intOf v8).toNat)
 case atStart =>
  refine⟨0,z0,rfl,Nat.zero_le _,rfl,?_,HG2.o⟩
  by_cases e:z0=0
  ·rw[if_pos e,e];rfl
  ·rw[if_neg e]
 case round =>
  obtain⟨k,z,rfl,hk,rfl,hz,hg⟩:=hrel;have HZ:Hd (z=(if z0=0 then(if((ae ns al).take k).any (fun k=>decide (aQ ns k=TX))=true then 5 else 0) else z0)):=hz;have nU:Hd (w.grownBy wr none):=hg;obtain⟨oA,mA,cA,hA⟩:=kP.o wr hg;have hkl:k<(ae ns al).length:=Nat.lt_of_le_of_lt hk HA.o.2.1;obtain⟨g,rfl,cg⟩:=hA k hkl;obtain⟨q,hq⟩:=zN ((ae ns al)[k]);obtain⟨lA,hlA⟩:=zN ((ae ns al).length);have HQ:Hd ((ae ns al)[k]=q):=hq;have dL:=cZ.o k hkl;have cq:=oM.o _ dL wr hg;have aeW:lA<=1000000:=by rw[<-hlA];exact hAl
  have hkl':k<lA:=by rw[<-hlA];exact hkl
  rw[hq]at cg cq;rw[hlA]at cA;rw[hq,HL.o]at dL;have ci:=oM.o i (by rw[HL.o];exact hi) wr hg;rw[Ol.o]at ci;obtain⟨Y,hY⟩:=zN (aQ ns q);rw[hY]at cq
  by_cases nV:k=K
  ·have jJ:q=i:=by rw[<-hq];subst nV;exact HA.o.2.2.1 hkl
   have hb:((q:Int) != (i:Int))=false:=by rw[jJ];simp
   have HF:Hd (R=if z=0/\20<=k then 4 else z):=by
    show _=_;rw[HR1.o,HZ.o,<-nV]
    by_cases e1:z0=0
    ·rw[if_pos e1,if_pos e1]
     by_cases e2:((ae ns al).take k).any (fun k=>decide (aQ ns k=TX))=true
     ·rw[if_pos e2,if_pos e2,if_neg (fun h=>absurd h.1 (by decide))]
     ·rw[if_neg e2,if_neg e2]
      by_cases e3:20<=k
      ·rw[if_pos e3,if_pos ⟨rfl,e3⟩]
      ·rw[if_neg e3,if_neg (fun h=>e3 h.2)]
    ·rw[if_neg e1,if_neg e1,if_neg (fun h=>e1 h.1)]
   clear hz hg hA hq nV jJ hlA hAl hY cq ci HZ
   by_cases e1:z=0
   ·by_cases e2:20<=k
    ·have hb2:decide ((k:Int) ≥ 20)=true:=decide_eq_true (by omega);have HF2:Hd (R=4):=by show _=_;rw[HF.o,if_pos ⟨e1,e2⟩]
     have h20:(20:Int)<=(k:Int):=by omega
     subst e1;clear HF;go_wp2;go_ret;exact⟨dB HF2.o.symm,nU.o⟩
    ·have hb2:decide ((k:Int) ≥ 20)=false:=decide_eq_false (by omega);have HF2:Hd (R=0):=by show _=_;rw[HF.o,if_neg (fun h=>e2 h.2),e1]
     have h20:¬(20:Int)<=(k:Int):=by omega
     subst e1;clear HF;go_wp2;go_ret;exact⟨dB HF2.o.symm,nU.o⟩
   ·have hbz:(z == 0)=false:=by simpa using e1
    have HF2:Hd (R=z):=by show _=_;rw[HF.o,if_neg (fun h=>e1 h.1)]
    clear HF e1;go_wp2;go_ret;exact⟨dB HF2.o.symm,nU.o⟩
  ·have jJ:¬q=i:=by rw[<-hq];exact HA.o.2.2.2.2 k hkl (by omega)
   have hb:((q:Int) != (i:Int))=true:=by simpa using(show ¬(q:Int)=(i:Int) by omega)
   have aeX:k<K:=by omega
   have HST:Hd (((ae ns al).take (k+1)).any (fun k=>decide (aQ ns k=TX))=(((ae ns al).take k).any (fun k=>decide (aQ ns k=TX)) || decide (Y=TX))):=by
    show _=_;rw[V9 _ _ _ hkl,HQ.o,hY]
   clear hz hg hA hq nV jJ hlA hAl hY
   by_cases e1:z=0
   ·have hz0:z0=0/\((ae ns al).take k).any (fun k=>decide (aQ ns k=TX))=false:=by
     have hh:=HZ.o;rw[e1]at hh
     by_cases e:z0=0
     ·rw[if_pos e]at hh;refine⟨e,?_⟩
      cases hc:((ae ns al).take k).any (fun k=>decide (aQ ns k=TX)) with
      | false=>rfl
      | true=>rw[hc]at hh;exact absurd hh (by decide)
     ·rw[if_neg e]at hh;exact absurd hh.symm e
    by_cases hYT:Y=TX
    ·have hs:(Y.toList == TX.toList)=true:=by rw[hYT];simp
     have gX:Hd (5=(if z0=0 then(if((ae ns al).take (k+1)).any (fun k=>decide (aQ ns k=TX))=true then 5 else 0) else z0)):=by
      show _=_;rw[if_pos hz0.1,HST.o,hz0.2,decide_eq_true hYT];rfl
     subst e1;clear hz0 hYT HST HZ;go_wp2;go_quiet (fail);go_wp2;refine⟨⟨k+1,5,by go_num,by omega,rfl,gX.o,au nU.o nq⟩,?_⟩;simp[intOf];omega
    ·have hs:(Y.toList == TX.toList)=false:=Ce hYT;have gX:Hd (0=(if z0=0 then(if((ae ns al).take (k+1)).any (fun k=>decide (aQ ns k=TX))=true then 5 else 0) else z0)):=by
      show _=_;rw[if_pos hz0.1,HST.o,hz0.2,decide_eq_false hYT];rfl
     subst e1;clear hz0 hYT HST HZ;go_wp2;go_quiet (fail);go_wp2;refine⟨⟨k+1,0,by go_num,by omega,rfl,gX.o,au nU.o nq⟩,?_⟩;simp[intOf];omega
   ·have hbz:(z == 0)=false:=by simpa using e1
    have gX:Hd (z=(if z0=0 then(if((ae ns al).take (k+1)).any (fun k=>decide (aQ ns k=TX))=true then 5 else 0) else z0)):=by
     have hh:=HZ.o
     by_cases e:z0=0
     ·rw[if_pos e]at hh;show _=_;rw[if_pos e,HST.o]
      cases hc:((ae ns al).take k).any (fun k=>decide (aQ ns k=TX)) with
      | false=>rw[hc]at hh;exact absurd hh e1
      | true=>rw[hc]at hh;exact hh
     ·show _=_;rw[if_neg e]at hh ⊢;exact hh
    clear HST HZ e1;go_wp2;go_quiet (fail);go_wp2;refine⟨⟨k+1,z,by go_num,by omega,rfl,gX.o,au nU.o nq⟩,?_⟩;simp[intOf];omega
open Go.RowKit Go.Maps Go.WideMaps Go.Joins
theorem aeZ(w:World)(N c:Nat)(ns:List Tn)(h:Dc w N c ns)(i:Nat)(h0:0<i)(hi:i<ns.length) :
  Calls prog 13 #[.slice (some ⟨N,0,none⟩) ns.length c,.int .i64 (i:Nat)] w fun e w'=>e=.returned (.int .i64 (iM ns i ns[i]))/\w.grownBy w' none:=by
 obtain⟨S,T⟩:=h.tv;obtain⟨p,hp⟩:=T.par i h0 hi;have hpl:=xw hp;have hpi:=T.gt _ _ hp;have hpn:=uG T hp;have C1:Hd (Calls prog 31 #[.slice (some ⟨N,0,none⟩) ns.length c,.int .i64 (i:Nat)] w fun e w'=>e=.returned (.int .i64 (p:Nat))/\w=w'):=(V7 w N c ns h i p hp).mono fun e w' hh=>⟨hh.1,hh.2.symm⟩
 obtain⟨o,m,e0,e1,e2,e3,e4,e5,-⟩:=h.node hi;obtain⟨R,hR⟩:=zN (iM ns i ns[i]);rw[hR];unfold iM at hR;rw[hpn]at hR;obtain⟨x,hx⟩:=zN (ns[i]);rw[hx]at e0 e1 e2 e3 e4 e5 hR;obtain⟨kd,ky,tx,nu,ks,pl⟩:=x;simp only[]at e0 e1 e2 e3 e4 e5;obtain⟨KY,gU⟩:∃t:ByteArray,⟨ky.toArray⟩=t:=⟨_,rfl⟩;have dY:Hd ((⟨ky.toArray⟩:ByteArray)=KY):=gU;rw[gU]at e1;obtain⟨bx,hbx⟩:=zN (w.heap.size);obtain⟨W,hW⟩:=zN (w.alloc (.cells #[.int .i64 kd,.string KY,.string ⟨tx.toArray⟩,.int .i64 nu,.slice o ks.length m,.int .i64 (pl:Nat)] 45));have hG:w.grownBy W none:=hW ▸ dn (ak w none) _;have HG:Hd (w.grownBy W none):=hG;have hB:W.heap[bx]?=some (.cells #[.int .i64 kd,.string KY,.string ⟨tx.toArray⟩,.int .i64 nu,.slice o ks.length m,.int .i64 (pl:Nat)] 45 (0,0)):=by rw[<-hW,<-hbx];exact heap_alloc_new _ _
 have b0:W.cell? ⟨bx,0,none⟩=some (.int .i64 kd):=by rw[af hB];rfl
 have b1:W.cell? ⟨bx,1,none⟩=some (.string KY):=by rw[af hB];rfl
 have b3:W.cell? ⟨bx,3,none⟩=some (.int .i64 nu):=by rw[af hB];rfl
 have HW:Hd (w.alloc (.cells #[.int .i64 kd,.string KY,.string ⟨tx.toArray⟩,.int .i64 nu,.slice o ks.length m,.int .i64 (pl:Nat)] 45)=W/\w.heap.size=bx):=⟨hW,hbx⟩;have hc:=h.cap;have hl:=h.len;obtain⟨L,hL⟩:=zN (ns.length)
 -- where it is no kid of the root
 have PR:Hd (¬p=0->∃(r op mp:Nat) (ox:Option Addr) (kp:Int) (Lp Ia:Nat),((p:Int) == 0)=false/\Calls prog 31 #[.slice (some ⟨N,0,none⟩) L c,.int .i64 (p:Nat)] W (fun e w'=>e=.returned (.int .i64 (r:Nat))/\W=w')/\W.cell? ⟨N,p*6,none⟩=some (.int .i64 kp)/\W.cell? ⟨N,p*6+4,none⟩=some (.slice ox Lp mp)/\Lp<=1000000/\Calls prog 32 #[.slice ox Lp mp,.int .i64 (i:Nat)] W (fun e w'=>e=.returned (.int .i64 (Ia:Nat))/\W=w')/\Calls prog 33 #[.slice (some ⟨N,0,none⟩) L c,.int .i64 (r:Nat),.int .i64 (p:Nat),.int .i64 (i:Nat)] W (fun e w'=>e=.returned (.int .i64 (lY ns r p ⟨kd,ky,tx,nu,ks,pl⟩))/\Hd (W.grownBy w' none))/\Calls prog 34 #[.slice (some ⟨N,0,none⟩) L c,.int .i64 (p:Nat),.int .i64 (i:Nat)] W (fun e w'=>e=.returned (.int .i64 (pV ns p i ⟨kd,ky,tx,nu,ks,pl⟩))/\Hd (W.grownBy w' none))/\(if r=0/\kp=2 then(if 50<=Ia then 4 else 0) else if kp=0 then lY ns r p ⟨kd,ky,tx,nu,ks,pl⟩ else pV ns p i ⟨kd,ky,tx,nu,ks,pl⟩)=R):=fun hp0=>by
  rw[if_neg hp0]at hR;obtain⟨r,hr⟩:=T.par p (by omega) hpl;rw[uG T hr]at hR;have Io:=h.grow hG;obtain⟨op,mp,f0,-,-,-,f4,-,hn⟩:=Io.node hpl;have kAt:ae ns p=(ns[p]'hpl).ks:=by unfold ae;rw[List.getElem?_eq_getElem hpl]
  have hkp:aj ns p=(ns[p]'hpl).kd:=by unfold aj;rw[List.getElem?_eq_getElem hpl]
  rw[hkp]at hR;have P1:=aeV W N c ns Io r p i hi hr;have P2:=aeY W N c ns Io p i hi hp;have P3:=V7 W N c ns Io p r hr;rw[hx,hL]at P1 P2;rw[hL]at P3;refine⟨r,0,mp,op,(ns[p]'hpl).kd,(ns[p]'hpl).ks.length,(dU (ae ns p) i).length,by simpa using(show ¬(p:Int)=0 by omega),P3.mono fun e w' hh=>⟨hh.1,hh.2.symm⟩,f0,f4,h.kid p hpl,(V6 W op mp _ (ns[p]'hpl).ks i rfl hn (h.kid p hpl)).mono fun e w' hh=>?_,P1,P2,hR⟩;refine⟨?_,hh.2.symm⟩;rw[hh.1,kAt];unfold ry;rw[if_pos (by rw[<-kAt];exact hp)]
 have HR0:Hd (p=0->uD ⟨kd,ky,tx,nu,ks,pl⟩=R):=fun e=>by rw[if_pos e]at hR;exact hR
 rw[hL]at hi hpl hc hl C1 ⊢;clear h T hp hpi hpn hR hx gU hbx hW hG hB hL;go_enter func13,ntmps13;go_wp2_with (go_at_call 31;refine C1.o.mono ?_);rintro e w' ⟨rfl,rfl⟩;go_upto_region 3 with fail
 try rw[HW.o.1]
 try rw[HW.o.2]
 clear e0 e1 e2 e3 e4 e5 C1 HW
 by_cases hp0:p=0
 ·have HR:Hd (uD ⟨kd,ky,tx,nu,ks,pl⟩=R):=HR0.o hp0;subst hp0;clear PR HR0
  by_cases k1:ky=jO
  ·have hb1:(KY.toList == [102,111,114,109,97,116])=true:=(ja dY.o).1 k1
   by_cases k2:kd=4
   ·have hb2:(kd != 4)=false:=by rw[k2];rfl
    by_cases k3:nu=1
    ·have hb3:(nu != 1)=false:=by rw[k3];rfl
     have HF:Hd (R=0):=by show _=_;rw[<-HR.o];unfold uD;rw[if_pos k1,if_neg (by simpa using k2),if_neg (by simpa using k3)]
     clear k1 k2 k3 HR;go_wp2;go_ret;exact⟨dB HF.o.symm,HG.o⟩
    ·have hb3:(nu != 1)=true:=by simpa using k3
     have HF:Hd (R=3):=by show _=_;rw[<-HR.o];unfold uD;rw[if_pos k1,if_neg (by simpa using k2),if_pos k3]
     clear k1 k2 k3 HR;go_wp2;go_ret;exact⟨dB HF.o.symm,HG.o⟩
   ·have hb2:(kd != 4)=true:=by simpa using k2
    have HF:Hd (R=7):=by show _=_;rw[<-HR.o];unfold uD;rw[if_pos k1,if_pos k2]
    clear k1 k2 HR;go_wp2;go_ret;exact⟨dB HF.o.symm,HG.o⟩
  ·have hb1:(KY.toList == [102,111,114,109,97,116])=false:=(ja dY.o).2 k1;have HR2:Hd (R=if ky=iY/\kd=2 then 0 else 7):=by show _=_;rw[<-HR.o];unfold uD;rw[if_neg k1]
   by_cases k2:ky=iY
   ·have hb2:(KY.toList == [112,97,99,107,97,103,101])=true:=(ja dY.o).1 k2
    by_cases k3:kd=2
    ·have hb3:(kd == 2)=true:=by simpa using k3
     have HF:Hd (R=0):=by show _=_;rw[HR2.o,if_pos ⟨k2,k3⟩]
     clear k1 k2 k3 HR HR2;go_wp2;go_ret;exact⟨dB HF.o.symm,HG.o⟩
    ·have hb3:(kd == 2)=false:=by simpa using k3
     have HF:Hd (R=7):=by show _=_;rw[HR2.o,if_neg (fun h=>k3 h.2)]
     clear k1 k2 k3 HR HR2;go_wp2;go_ret;exact⟨dB HF.o.symm,HG.o⟩
   ·have hb2:(KY.toList == [112,97,99,107,97,103,101])=false:=(ja dY.o).2 k2;have HF:Hd (R=7):=by show _=_;rw[HR2.o,if_neg (fun h=>k2 h.1)]
    clear k1 k2 HR HR2;go_wp2;go_ret;exact⟨dB HF.o.symm,HG.o⟩
 ·obtain⟨r,-,mp,ox,kp,Lp,Ia,hbp,P3,f0,f4,hLp,P4,P1,P2,hRR⟩:=PR.o hp0;have C2:Hd (Calls prog 31 #[.slice (some ⟨N,0,none⟩) L c,.int .i64 (p:Nat)] W fun e w'=>e=.returned (.int .i64 (r:Nat))/\W=w'):=P3;have CI:Hd (Calls prog 32 #[.slice ox Lp mp,.int .i64 (i:Nat)] W fun e w'=>e=.returned (.int .i64 (Ia:Nat))/\W=w'):=P4;have D5:Hd (Calls prog 33 #[.slice (some ⟨N,0,none⟩) L c,.int .i64 (r:Nat),.int .i64 (p:Nat),.int .i64 (i:Nat)] W fun e w'=>e=.returned (.int .i64 (lY ns r p ⟨kd,ky,tx,nu,ks,pl⟩))/\Hd (W.grownBy w' none)):=P1;have D6:Hd (Calls prog 34 #[.slice (some ⟨N,0,none⟩) L c,.int .i64 (p:Nat),.int .i64 (i:Nat)] W fun e w'=>e=.returned (.int .i64 (pV ns p i ⟨kd,ky,tx,nu,ks,pl⟩))/\Hd (W.grownBy w' none)):=P2;have HR:Hd ((if r=0/\kp=2 then(if 50<=Ia then 4 else 0) else if kp=0 then lY ns r p ⟨kd,ky,tx,nu,ks,pl⟩ else pV ns p i ⟨kd,ky,tx,nu,ks,pl⟩)=R):=hRR
  clear PR HR0 P1 P2 P3 P4 hRR hp0 b0 b1 b3;go_wp2_with (go_at_call 31;refine C2.o.mono ?_);rintro e w' ⟨rfl,rfl⟩;clear C2
  by_cases q:r=0/\kp=2
  ·obtain⟨q1,q2⟩:=q;subst q1;have hb2:(kp == 2)=true:=by simpa using q2
   by_cases q3:50<=Ia
   ·have hb3:(50:Int)<=(Ia:Int):=by omega
    have HF:Hd (R=4):=by show _=_;rw[<-HR.o,if_pos ⟨rfl,q2⟩,if_pos q3]
    clear q2 q3 HR D5 D6;go_wp2_with (go_at_call 32;refine CI.o.mono ?_;rintro e w' ⟨rfl,rfl⟩);go_ret;exact⟨dB HF.o.symm,HG.o⟩
   ·have hb3:¬(50:Int)<=(Ia:Int):=by omega
    have HF:Hd (R=0):=by show _=_;rw[<-HR.o,if_pos ⟨rfl,q2⟩,if_neg q3]
    clear q2 q3 HR D5 D6;go_wp2_with (go_at_call 32;refine CI.o.mono ?_;rintro e w' ⟨rfl,rfl⟩);go_ret;exact⟨dB HF.o.symm,HG.o⟩
  ·have HR2:Hd ((if kp=0 then lY ns r p ⟨kd,ky,tx,nu,ks,pl⟩ else pV ns p i ⟨kd,ky,tx,nu,ks,pl⟩)=R):=by show _=_;rw[<-HR.o,if_neg q]
   have hq:(((r:Int) == 0)=true/\(kp == 2)=false)\/((r:Int) == 0)=false:=by
    by_cases q1:r=0
    ·exact Or.inl ⟨by rw[q1];rfl,by simpa using fun e=>q ⟨q1,e⟩⟩
    ·exact Or.inr (by simpa using(show ¬(r:Int)=0 by omega))
   clear q HR CI
   by_cases q3:kp=0
   ·have hb3:(kp == 0)=true:=by simpa using q3
    have HF:Hd (lY ns r p ⟨kd,ky,tx,nu,ks,pl⟩=R):=by show _=_;rw[<-HR2.o,if_pos q3]
    rw[HF.o]at D5;clear q3 HR2 D6
    rcases hq with⟨hq1,hq2⟩|hq1
    all_goals (
     go_wp2_with (go_at_call 33;refine D5.o.mono ?_;rintro e w' ⟨rfl,hg⟩);go_ret;exact⟨rfl,ai HG.o hg.o⟩)
   ·have hb3:(kp == 0)=false:=by simpa using q3
    have HF:Hd (pV ns p i ⟨kd,ky,tx,nu,ks,pl⟩=R):=by show _=_;rw[<-HR2.o,if_neg q3]
    rw[HF.o]at D6;clear q3 HR2 D5
    rcases hq with⟨hq1,hq2⟩|hq1
    all_goals (
     go_wp2_with (go_at_call 34;refine D6.o.mono ?_;rintro e w' ⟨rfl,hg⟩);go_ret;exact⟨rfl,ai HG.o hg.o⟩)
end Go.Proofs.YtnnbgjaphfhibaaGreatDoor
