import Derived.Test.YtnnbgjaphfhibaaGreatDoorE38
import Derived.Test.YtnnbgjaphfhibaaGreatDoorE34
import Derived.Test.YtnnbgjaphfhibaaGreatDoorE37
import Derived.Test.YtnnbgjaphfhibaaGreatDoorE35
set_option linter.all false
set_option maxRecDepth 100000
set_option maxHeartbeats 0
open Go.Proofs.Tryz
namespace Go.Proofs.YtnnbgjaphfhibaaGreatDoor
open Go.RowKit Go.Maps Go.WideMaps Go.Joins
structure SpF(b0 b1:Nat)(w w':World):Prop where
 os:w'.os=w.os
 tape:w'.tape=w.tape
 output:w'.output=w.output
 size:w.heap.size<=w'.heap.size
 block:∀b,(b<b0\/b1<=b)->w'.heap[b]?=w.heap[b]?
theorem SpF.refl(b0 b1:Nat)(w:World):SpF b0 b1 w w:=⟨rfl,rfl,rfl,Nat.le_refl _,fun _ _=>rfl⟩
theorem SpF.set{b0 b1:Nat}{w w':World}(h:SpF b0 b1 w w'){g:Nat}(h0:b0<=g)(h1:g<b1)(o:Nat)(v:Value):SpF b0 b1 w (w'.setCell ⟨g,o,none⟩ v) :=
 ⟨h.os,h.tape,h.output,by have:=h.size;simpa [World.setCell] using this,fun b hb=>(heap_setCell_other w' _ b v (by simp only[];omega)).trans (h.block b hb)⟩
theorem SpF.below{b0 b1:Nat}{w w':World}(h:SpF b0 b1 w w'):Below b0 w w':=⟨h.os,h.tape,h.output,h.size,fun k hk=>h.block k (Or.inl hk)⟩
structure SpL(w:World)(b0 b1 N n i:Nat)(ks:Nat->Value)(ls:Nat->Nat):Prop where
 lo:b0<=N
 hi:N<b1
 row:∃cur,w.heap[N]?=some (.cells cur 64 (0,0))/\n*6<=cur.size/\∀j,i<=j->j<n->cur[j*6+4]?=some (ks j)
 kid:∀j,j<n->∃o c,ks j=.slice o (ls j) c/\ls j<=1000000/\(0<ls j->∃g cur,o=some ⟨g,0,none⟩/\b0<=g/\g<b1/\w.heap[g]?=some (.cells cur 3 (0,0))/\ls j<=cur.size)
section
variable {w:World} {b0 b1 N n i:Nat} {ks:Nat->Value} {ls:Nat->Nat}
theorem SpL.next(h:SpL w b0 b1 N n i ks ls):SpL w b0 b1 N n (i+1) ks ls:=by
 obtain⟨cur,h1,h2,h3⟩:=h.row;exact⟨h.lo,h.hi,⟨cur,h1,h2,fun j hj hn=>h3 j (by omega) hn⟩,h.kid⟩
theorem SpL.cell(h:SpL w b0 b1 N n i ks ls)(o:Nat)(ho:o<i*6)(v:Value):SpL (w.setCell ⟨N,o,none⟩ v) b0 b1 N n i ks ls:=by
 obtain⟨cur,h1,h2,h3⟩:=h.row;refine⟨h.lo,h.hi,⟨cur.setIfInBounds o v,block_setCell h1 v,by simpa using h2,fun j hj hn=>?_⟩,fun j hj=>?_⟩
 ·rw[Array.getElem?_setIfInBounds_ne (by omega)];exact h3 j hj hn
 ·obtain⟨oo,c,e,hm,hh⟩:=h.kid j hj;refine⟨oo,c,e,hm,fun hp=>?_⟩;obtain⟨g,cu,e1,e2,e3,e4,e5⟩:=hh hp;exact⟨g,cu,e1,e2,e3,(heap_setCell_other _ _ _ _ (aO e4 h1 (by decide))).trans e4,e5⟩
theorem SpL.at(h:SpL w b0 b1 N n i ks ls)(j:Nat)(hj:i<=j)(hn:j<n):w.cell? ⟨N,j*6+4,none⟩=some (ks j)/\∀k,w.frozen? ⟨N,k,none⟩=false:=by
 obtain⟨cur,h1,h2,h3⟩:=h.row;exact⟨by rw[ag h1];exact h3 j hj hn,fun k=>Lib.frozen_of_heap h1 k⟩
theorem SpL.any(h:SpL w b0 b1 N n i ks ls)(o:Nat)(ho:o<n*6):∃v,w.cell? ⟨N,o,none⟩=some v:=by
 obtain⟨cur,h1,h2,h3⟩:=h.row;exact⟨cur[o]'(by omega),by rw[ag h1];exact Array.getElem?_eq_getElem (by omega)⟩
end
open Go.RowKit Go.Maps Go.WideMaps Go.Joins
structure Dc(w:World)(N c:Nat)(ns:List Tn):Prop where
 tre:∃B m own OV xs ks,DtD w B 0 ns m own (.slice (some ⟨N,0,none⟩) ns.length c) OV xs ks/\WF ns own
 tv:∃S,Tv 100000 ns S
 len:ns.length<=1000000
 cap:ns.length<=c
 kid:∀i (hi:i<ns.length),ns[i].ks.length<=1000000
theorem Dc.grow{w w':World}{N c:Nat}{ns:List Tn}(h:Dc w N c ns)(hg:w.grownBy w' none):Dc w' N c ns:=by
 obtain⟨B,m,own,OV,xs,ks,hD,W⟩:=h.tre;exact⟨⟨B,m,own,OV,xs,ks,hD.gb hg,W⟩,h.tv,h.len,h.cap,h.kid⟩
theorem Dc.node{w:World}{N c:Nat}{ns:List Tn}(h:Dc w N c ns){i:Nat}(hi:i<ns.length):∃o m,w.cell? ⟨N,i*6,none⟩=some (.int .i64 ns[i].kd)/\w.cell? ⟨N,i*6+1,none⟩=some (.string ⟨ns[i].ky.toArray⟩)/\w.cell? ⟨N,i*6+2,none⟩=some (.string ⟨ns[i].tx.toArray⟩)/\w.cell? ⟨N,i*6+3,none⟩=some (.int .i64 ns[i].nu)/\w.cell? ⟨N,i*6+4,none⟩=some (.slice o ns[i].ks.length m)/\w.cell? ⟨N,i*6+5,none⟩=some (.int .i64 (ns[i].pl:Nat))/\NuS w (.slice o ns[i].ks.length m) ns[i].ks:=by
 obtain⟨B,m,own,OV,xs,ks,hD,W⟩:=h.tre;obtain⟨h0,h1,h2,h3,h4,h5,-⟩:=hD.node i hi;have hk:=NuS.of (hD.kid i hi);obtain⟨o,c',e,hh⟩:=hk;refine⟨o,c',h0,h1,h2,h3,?_,h5,o,c',rfl,hh⟩;rw[<-e];exact h4
theorem Dc.cKid{w:World}{N c:Nat}{ns:List Tn}(h:Dc w N c ns)(t:Nat)(ht:t<ns.length)(k:List UInt8) :
  Calls prog 14 #[.slice (some ⟨N,0,none⟩) ns.length c,.int .i64 (t:Nat),.string ⟨k.toArray⟩] w fun e w'=>e=.returned (.int .i64 (gI ns t k))/\w'=w:=by
 obtain⟨B,m,own,OV,xs,ks,hD,W⟩:=h.tre;exact IE w B 0 ns m own N c OV xs ks t k hD W ht h.len
def uJ(l:List Nat)(n:Nat):Int:=if n∈l then((dS l n).length:Int) else -1
theorem Zl:∀(l:List Nat) (n i:Nat) (hi:i<l.length),(∀j (hj:j<l.length),j<i->¬l[j]=n)->l[i]=n->dS l n=l.take i
 | a :: r,n,0,_,_,h=>by
  have:a=n:=h;unfold dS;rw[List.takeWhile_cons,decide_eq_false (by simpa using this)];rfl
 | a :: r,n,i+1,hi,ha,h=>by
  have h0:¬a=n:=ha 0 (by simp) (by omega);unfold dS;rw[List.takeWhile_cons,decide_eq_true (by simpa using h0)];simp only[if_true,List.take_succ_cons];exact congrArg _ (Zl r n i (by simpa using hi) (fun j hj hji=>ha (j+1) (by simpa using hj) (by omega)) h)
theorem aiF{l:List Nat}{n i:Nat}(hi:i<l.length)(ha:∀j (hj:j<l.length),j<i->¬l[j]=n)(h:l[i]=n):uJ l n=(i:Int):=by
 unfold uJ;rw[if_pos (by rw[<-h];exact List.getElem_mem hi),Zl l n i hi ha h,List.length_take,Nat.min_eq_left (by omega)]
theorem aiG{l:List Nat}{n:Nat}(h:∀j (hj:j<l.length),¬l[j]=n):uJ l n=-1:=by
 unfold uJ;rw[if_neg];intro hm;obtain⟨j,hj,e⟩:=List.getElem_of_mem hm;exact h j hj e
theorem Zm(w:World)(o:Option Addr)(m M:Nat)(l:List Nat)(n:Nat)(hM:l.length=M)(h:NuS w (.slice o M m) l)(hl:M<=1000000) :
  Calls prog 32 #[.slice o M m,.int .i64 (n:Nat)] w fun e w'=>e=.returned (.int .i64 (uJ l n))/\w'=w:=by
 have HC:Hd (∀i (hi:i<l.length),∃g,o=some ⟨g,0,none⟩/\w.cell? ⟨g,i,none⟩=some (.int .i64 (l[i]:Nat))):=fun i hi=>by
  obtain⟨o',c',e,hh⟩:=h;injection e with e _ _
  rw[e];exact hh i hi
 have HM:=ae hM;obtain⟨r,hr⟩:=zN (uJ l n);have HR:=ae hr;rw[hr];clear h hM hr;go_enter func32,ntmps32;go_wp2;go_loopw [5] (fun vi wr=>∃i:Nat,vi=.int .i64 (i:Nat)/\i<=M/\(∀j (hj:j<l.length),j<i->¬l[j]=n)/\w=wr) (fun vi _=>M-(intOf vi).toNat)
 case atStart=>exact⟨0,rfl,by omega,fun j hj h=>absurd h (by omega),rfl⟩
 case round =>
  obtain⟨i,rfl,hi,hpre,rfl⟩:=hrel;have HP:=ae hpre;clear hpre
  by_cases hlt:i<M
  ·have hlt':i<l.length:=by rw[HM.o];exact hlt
   obtain⟨g,hg,cg⟩:=HC.o i hlt';obtain⟨q,hq⟩:=zN (l[i]);have HQ:=ae hq;rw[hq]at cg;subst hg;clear hq
   by_cases e:q=n
   ·have hb:((q:Int) == (n:Int))=true:=by rw[e];simp
    have HRR:Hd (r=(i:Int)):=by
     show _=_;rw[<-HR.o,aiF hlt' HP.o (HQ.o.trans e)]
    clear e;go_wp2;go_ret;exact⟨dB HRR.o.symm,rfl⟩
   ·have hb:((q:Int) == (n:Int))=false:=by simpa using(show ¬(q:Int)=(n:Int) by omega)
    have HP2:Hd (∀j (hj:j<l.length),j<i+1->¬l[j]=n):=fun j hj hji=>by
     by_cases hj':j<i
     ·exact HP.o j hj hj'
     ·have e':j=i:=by omega
      subst e';rw[HQ.o];exact e
    clear e;go_wp2;refine⟨⟨i+1,by go_num,by omega,HP2.o,by first|trivial|rfl⟩,?_⟩;simp[intOf];omega
  ·have HRR:Hd (r=-1):=by
    show _=_;rw[<-HR.o,aiG fun j hj=>HP.o j hj (by rw[HM.o]at hj;omega)]
   go_wp2;go_ret;exact⟨dB HRR.o.symm,rfl⟩
theorem Zn(w:World)(N c:Nat)(ns:List Tn)(h:Dc w N c ns)(i p:Nat)(hp:i∈af ns p) :
  Calls prog 31 #[.slice (some ⟨N,0,none⟩) ns.length c,.int .i64 (i:Nat)] w fun e w'=>e=.returned (.int .i64 (p:Nat))/\w'=w:=by
 obtain⟨S,T⟩:=h.tv;have HP:Hd (i∈af ns p/\p<ns.length/\∀q,i∈af ns q->q=p):=⟨hp,yM hp,fun q hq=>T.uni _ _ _ hq hp⟩;have CI:Hd (∀k (hk:k<ns.length),∃o m,w.cell? ⟨N,k*6+4,none⟩=some (.slice o ns[k].ks.length m)/\Calls prog 32 #[.slice o ns[k].ks.length m,.int .i64 (i:Nat)] w fun e w'=>e=.returned (.int .i64 (uJ (af ns k) i))/\w'=w):=fun k hk=>by
  obtain⟨o,m,-,-,-,-,h4,-,hn⟩:=h.node hk;refine⟨o,m,h4,?_⟩;have e:af ns k=ns[k].ks:=by unfold af;rw[List.getElem?_eq_getElem hk]
  rw[e];exact Zm w o m _ ns[k].ks i rfl hn (h.kid k hk)
 have hl:=h.len;have hc:=h.cap;obtain⟨L,hL⟩:=zN (ns.length);have HL:=ae hL;rw[hL]at hl hc ⊢;clear h hp hL T;go_enter func31,ntmps31;go_wp2;go_loopw [5] (fun vi wr=>∃k:Nat,vi=.int .i64 (k:Nat)/\k<=L/\(∀j,j<k->¬i∈af ns j)/\w=wr) (fun vi _=>L-(intOf vi).toNat)
 case atStart=>exact⟨0,rfl,by omega,fun j h=>absurd h (by omega),rfl⟩
 case round =>
  obtain⟨k,rfl,hk,hpre,rfl⟩:=hrel;have HQ:=ae hpre;clear hpre
  by_cases hlt:k<L
  ·obtain⟨o,m,c4,CC⟩:=CI.o k (by rw[HL.o];exact hlt);obtain⟨x,hx⟩:=zN ((ns[k]'(by rw[HL.o];exact hlt)).ks.length);rw[hx]at c4 CC
   by_cases e:i∈af ns k
   ·have HE:=ae (HP.o.2.2 k e);obtain⟨z,hz⟩:∃z:Nat,(dS (af ns k) i).length=z:=⟨_,rfl⟩;have CX:Hd (Calls prog 32 #[.slice o x m,.int .i64 (i:Nat)] w fun e w'=>e=.returned (.int .i64 (z:Nat))/\w=w'):=CC.mono fun e' w' hh=>by
     refine⟨?_,hh.2.symm⟩;rw[hh.1];unfold uJ;rw[if_pos e,hz]
    have hzz:(0:Int)<=(z:Int):=by omega
    clear e CC hx hz;go_wp2_with (go_at_call 32;refine CX.o.mono ?_;rintro e' w' ⟨rfl,rfl⟩);go_ret;exact⟨dB (show(k:Int)=(p:Int) by rw[HE.o]),rfl⟩
   ·have jf:Hd (∀j,j<k+1->¬i∈af ns j):=fun j hj=>by
     by_cases hj':j<k
     ·exact HQ.o j hj'
     ·rw[show j=k by omega];exact e
    have CX:Hd (Calls prog 32 #[.slice o x m,.int .i64 (i:Nat)] w fun e w'=>e=.returned (.int .i64 (-1))/\w=w'):=CC.mono fun e' w' hh=>by
     refine⟨?_,hh.2.symm⟩;rw[hh.1];unfold uJ;rw[if_neg e]
    clear e CC hx;go_wp2_with (go_at_call 32;refine CX.o.mono ?_;rintro e' w' ⟨rfl,rfl⟩);refine⟨⟨k+1,by go_num,by omega,jf.o,by first|trivial|rfl⟩,?_⟩;simp[intOf];omega
  ·exact absurd HP.o.1 (HQ.o p (by have:=HP.o.2.1;rw[HL.o]at this;omega))
open Go.RowKit Go.Maps Go.WideMaps Go.Joins
theorem aiH{x:Tn}{is:ByteArray->Bool}(h3:x.kd=3):takeD x is=if is (bW x)=true then 0 else 2:=by unfold takeD;rw[if_neg (by simpa using h3)]
theorem Zo(w:World)(x:Tn)(o:Option Addr)(m c:Nat)(what:Int)(is:ByteArray->Bool)(hw:(what=0/\is=nameB)\/(what=1/\is=okV)\/(what=2/\is=nP))(htx:x.tx.length<=100000) :
  Calls prog 57 #[.agg (dQ x (.slice o m c)),.int .i64 what] w fun e w'=>e=.returned (.int .i64 (takeD x is))/\w.grownBy w' none:=by
 obtain⟨kd,ky,tx,nu,ks,pl⟩:=x;unfold dQ;simp only[]at htx ⊢;have hsz:(⟨tx.toArray⟩:ByteArray).size<=100000:=by
  show tx.toArray.size<=_;rw[List.size_toArray];exact htx
 obtain⟨TX,eH⟩:∃t:ByteArray,⟨tx.toArray⟩=t:=⟨_,rfl⟩;have nU:=ae eH;rw[eH]at hsz ⊢;obtain⟨W,hW⟩:=zN (w.alloc (.cells #[.int .i64 kd,.string ⟨ky.toArray⟩,.string TX,.int .i64 nu,.slice o m c,.int .i64 (pl:Nat)] 45));have HG:=ae (hW ▸ bC (au w none) _);have hB:W.heap[w.heap.size]?=some (.cells #[.int .i64 kd,.string ⟨ky.toArray⟩,.string TX,.int .i64 nu,.slice o m c,.int .i64 (pl:Nat)] 45 (0,0)):=by rw[<-hW];exact heap_alloc_new _ _
 have c0:W.cell? ⟨w.heap.size,0,none⟩=some (.int .i64 kd):=by rw[ag hB];rfl
 have c2:W.cell? ⟨w.heap.size,2,none⟩=some (.string TX):=by rw[ag hB];rfl
 have CN:Hd (Calls prog 85 #[.string TX] W fun e w'=>e=.returned (.bool (nameB TX))/\Hd (W.grownBy w' none)):=(ac2 TX W (by omega)).mono fun e w' h=>⟨h.1,h.2 ▸ au _ none⟩
 have CV:Hd (Calls prog 86 #[.string TX] W fun e w'=>e=.returned (.bool (okV TX))/\Hd (W.grownBy w' none)):=aem TX W (by omega);have CD:Hd (Calls prog 87 #[.string TX] W fun e w'=>e=.returned (.bool (nP TX))/\Hd (W.grownBy w' none)):=(ac1 TX W (by unfold maxLen;omega)).mono fun e w' h=>⟨h.1,h.2 ▸ au _ none⟩
 clear hB hsz
 by_cases h3:kd=3
 ·obtain⟨z,hz⟩:=zN (takeD ⟨kd,ky,tx,nu,ks,pl⟩ is);have HZ:Hd ((is TX=true->z=0)/\(is TX=false->z=2)):=by
   have:=aiH (x:=⟨kd,ky,tx,nu,ks,pl⟩) (is:=is) h3;rw[hz,show bW ⟨kd,ky,tx,nu,ks,pl⟩=TX from eH]at this;exact⟨fun h=>by rw[this,if_pos h],fun h=>by rw[this,if_neg (by rw[h];decide)]⟩
  rw[hz];subst h3;clear hz eH htx
  rcases hw with⟨rfl,rfl⟩|⟨rfl,rfl⟩|⟨rfl,rfl⟩
  ·go_enter func57,ntmps57;go_wp2_with (go_at_call 85;refine CN.o.mono ?_);rintro e w2 ⟨rfl,hg2⟩
   cases hb:nameB TX with
   | true=>go_wp2;go_ret;exact⟨dB (HZ.o.1 hb).symm,ai HG.o hg2.o⟩
   | false=>go_wp2;go_ret;exact⟨dB (HZ.o.2 hb).symm,ai HG.o hg2.o⟩
  ·go_enter func57,ntmps57;go_wp2_with (go_at_call 86;refine CV.o.mono ?_);rintro e w2 ⟨rfl,hg2⟩
   cases hb:okV TX with
   | true=>go_wp2;go_ret;exact⟨dB (HZ.o.1 hb).symm,ai HG.o hg2.o⟩
   | false=>go_wp2;go_ret;exact⟨dB (HZ.o.2 hb).symm,ai HG.o hg2.o⟩
  ·go_enter func57,ntmps57;go_wp2_with (go_at_call 87;refine CD.o.mono ?_);rintro e w2 ⟨rfl,hg2⟩
   cases hb:nP TX with
   | true=>go_wp2;go_ret;exact⟨dB (HZ.o.1 hb).symm,ai HG.o hg2.o⟩
   | false=>go_wp2;go_ret;exact⟨dB (HZ.o.2 hb).symm,ai HG.o hg2.o⟩
 ·have hb:(kd != 3)=true:=by simpa using h3
  have hz:takeD ⟨kd,ky,tx,nu,ks,pl⟩ is=7:=by unfold takeD;rw[if_pos h3]
  rw[hz];clear hz eH htx hw;go_enter func57,ntmps57;go_wp2;go_ret;exact⟨rfl,HG.o⟩
theorem Zp{α:Type}(p:α->Bool)(l:List α)(k:Nat)(hk:k<l.length):(l.take (k+1)).any p=((l.take k).any p || p l[k]):=by
 rw[List.take_succ_eq_append_getElem hk,List.any_append];simp
theorem QI:∀(l:List Nat) (n:Nat),n∈l->∃h:(dS l n).length<l.length,l[(dS l n).length]=n/\dS l n=l.take (dS l n).length/\∀j (hj:j<l.length),j<(dS l n).length->¬l[j]=n
 | a :: r,n,hm=>by
  by_cases e:a=n
  ·have h0:dS (a :: r) n=[]:=by unfold dS;rw[List.takeWhile_cons,decide_eq_false (by simpa using e)];rfl
   simp only[h0,List.length_nil,List.take_zero,true_and];exact⟨by simp,by simpa using e,fun j hj hlt=>absurd hlt (by omega)⟩
  ·have hr:n∈r:=by rcases List.mem_cons.1 hm with h|h;exact absurd h.symm e;exact h
   obtain⟨h1,h2,h3,h4⟩:=QI r n hr;have h0:dS (a :: r) n=a :: dS r n:=by unfold dS;rw[List.takeWhile_cons,decide_eq_true (by simpa using e)];rfl
   simp only[h0,List.length_cons,List.take_succ_cons];refine⟨by omega,by simpa using h2,by rw[<-h3],fun j hj hlt=>?_⟩
   cases j with
   | zero=>simpa using e
   | succ j=>simpa using h4 j (by simpa using hj) (by omega)
theorem aiI(w:World)(N c:Nat)(ns:List Tn)(h:Dc w N c ns)(al t i:Nat)(hi:i<ns.length)(ht:t∈af ns al) :
  Calls prog 33 #[.slice (some ⟨N,0,none⟩) ns.length c,.int .i64 (al:Nat),.int .i64 (t:Nat),.int .i64 (i:Nat)] w fun e w'=>e=.returned (.int .i64 (lH ns al t ns[i]))/\w.grownBy w' none:=by
 have HD:=ae h;obtain⟨S,T⟩:=h.tv;have hal:=yM ht;have oP:af ns al=(ns[al]'hal).ks:=by unfold af;rw[List.getElem?_eq_getElem hal]
 obtain⟨hK,hK1,hK2,hK3⟩:=QI (af ns al) t ht;obtain⟨K,jd⟩:=zN ((dS (af ns al) t).length);have HA:Hd ((dS (af ns al) t).length=K/\K<(af ns al).length/\(∀h:K<(af ns al).length,(af ns al)[K]=t)/\dS (af ns al) t=(af ns al).take K/\(∀j (hj:j<(af ns al).length),j<K->¬(af ns al)[j]=t)):=by
  subst jd;exact⟨rfl,hK,fun _=>hK1,hK2,hK3⟩
 have bP:=ae (fun k (hk:k<(af ns al).length)=>T.lt al _ (List.getElem_mem hk));have lF:Hd (∀w',w.grownBy w' none->∃oA mA,w'.cell? ⟨N,al*6+4,none⟩=some (.slice oA (af ns al).length mA)/\∀k (hk:k<(af ns al).length),∃g,oA=some ⟨g,0,none⟩/\w'.cell? ⟨g,k,none⟩=some (.int .i64 ((af ns al)[k]:Nat))):=fun w' hg=>by
  obtain⟨o,m,-,-,-,-,h4,-,o',m',e,hn⟩:=(h.grow hg).node hal;rw[<-oP]at h4 e hn;refine⟨o,m,h4,fun k hk=>?_⟩;injection e with e _ _
  rw[e];exact hn k hk
 have hAl:(af ns al).length<=1000000:=by rw[oP];exact h.kid al hal
 have CK:Hd (∀q,q<ns.length->∀w',w.grownBy w' none->Calls prog 14 #[.slice (some ⟨N,0,none⟩) ns.length c,.int .i64 (q:Nat),.string ⟨#[110,97,109,101]⟩] w' fun e w''=>e=.returned (.int .i64 (gI ns q bQ))/\w'=w''):=fun q hq w' hg=>((h.grow hg).cKid q hq bQ).mono fun e w'' hh=>⟨hh.1,hh.2.symm⟩
 have pM:Hd (∀q (hq:q<ns.length),∀w',w.grownBy w' none->w'.cell? ⟨N,q*6+2,none⟩=some (.string (aP ns q))):=fun q hq w' hg=>by
  obtain⟨-,-,-,-,h2,-⟩:=(h.grow hg).node hq;show _=_;unfold aP;rw[List.getElem?_eq_getElem hq];exact h2
 obtain⟨o,m,e0,e1,e2,e3,e4,e5,-⟩:=h.node hi;have htx:=(T.txt _ (List.getElem_mem hi)).2.1;obtain⟨x,hx⟩:=zN (ns[i]);rw[hx]at e0 e1 e2 e3 e4 e5 htx ⊢;have hc:=h.cap;have hl:=h.len;obtain⟨L,hL⟩:=zN (ns.length);have HL:=ae hL;have CP:Hd (∀w' (what:Int) (is:ByteArray->Bool),((what=0/\is=nameB)\/(what=1/\is=okV)\/(what=2/\is=nP))->Calls prog 57 #[.agg (dQ x (.slice o x.ks.length m)),.int .i64 what] w' fun e w''=>e=.returned (.int .i64 (takeD x is))/\Hd (w'.grownBy w'' none)):=fun w' what is hw=>Zo w' x o _ m what is hw htx
 obtain⟨R,hR⟩:=zN (lH ns al t x);have HR:=ae hR;rw[hR];obtain⟨kd,ky,tx,nu,ks,pl⟩:=x;obtain⟨KY,iC⟩:∃t:ByteArray,⟨ky.toArray⟩=t:=⟨_,rfl⟩;obtain⟨TX,eH⟩:∃t:ByteArray,⟨tx.toArray⟩=t:=⟨_,rfl⟩;have eP:=ae iC;have nU:Hd (bW ⟨kd,ky,tx,nu,ks,pl⟩=TX):=eH;obtain⟨M,hM⟩:=zN (ks.length);unfold dQ at CP;simp only[]at e0 e1 e2 e3 e4 e5 CP;rw[hL]at hi hal hc hl CK ⊢;rw[iC,hM]at CP;rw[eH]at CP e2;rw[iC]at e1;rw[hM]at e4;obtain⟨bx,hbx⟩:=zN (w.heap.size);obtain⟨W,hW⟩:=zN (w.alloc (.cells #[.int .i64 kd,.string KY,.string TX,.int .i64 nu,.slice o M m,.int .i64 (pl:Nat)] 45));have HG:=ae (hW ▸ bC (au w none) _);have hB:W.heap[bx]?=some (.cells #[.int .i64 kd,.string KY,.string TX,.int .i64 nu,.slice o M m,.int .i64 (pl:Nat)] 45 (0,0)):=by rw[<-hW,<-hbx];exact heap_alloc_new _ _
 have b0:W.cell? ⟨bx,0,none⟩=some (.int .i64 kd):=by rw[ag hB];rfl
 have b1:W.cell? ⟨bx,1,none⟩=some (.string KY):=by rw[ag hB];rfl
 have b2:W.cell? ⟨bx,2,none⟩=some (.string TX):=by rw[ag hB];rfl
 have b3:W.cell? ⟨bx,3,none⟩=some (.int .i64 nu):=by rw[ag hB];rfl
 have b4:W.cell? ⟨bx,4,none⟩=some (.slice o M m):=by rw[ag hB];rfl
 have b5:W.cell? ⟨bx,5,none⟩=some (.int .i64 (pl:Nat)):=by rw[ag hB];rfl
 have HW:Hd (w.alloc (.cells #[.int .i64 kd,.string KY,.string TX,.int .i64 nu,.slice o M m,.int .i64 (pl:Nat)] 45)=W/\w.heap.size=bx):=⟨hW,hbx⟩;have Zq:=CP.o W 0 nameB (Or.inl ⟨rfl,rfl⟩);have vH:=CP.o W 1 okV (Or.inr (Or.inl ⟨rfl,rfl⟩));have Zr:=CP.o W 2 nP (Or.inr (Or.inr ⟨rfl,rfl⟩));have uK:=ae Zq;have ry:=ae vH;have HC2:=ae Zr;clear h T oP hK hK1 hK2 hK3 jd hR hx hL iC eH hM hB hbx hW CP Zq vH Zr htx ht
 by_cases k1:ky=bQ
 ·have hb1:(KY.toList == [110,97,109,101])=true:=(jy eP.o).1 k1;obtain⟨z0,hz0⟩:=zN (takeD ⟨kd,ky,tx,nu,ks,pl⟩ nameB);rw[hz0]at uK;have HR1:Hd (R=if z0=0 then(if(dS (af ns al) t).any (kJ ns TX)=true then 5 else 0) else z0):=by
   show _=_;rw[<-HR.o];unfold lH;rw[if_pos k1,hz0,nU.o]
  clear k1 hz0 HR ry HC2;go_enter func33,ntmps33;go_upto_region 2 with fail
  try rw[HW.o.1]
  try rw[HW.o.2]
  go_wp2_with (go_at_call 57;refine uK.o.mono ?_);rintro e w2 ⟨rfl,hg2⟩;have HG2:=ae (ai HG.o hg2.o);have b22:=hg2.o.cell b2 (by simp);have HB2:=ae b22;clear b0 b1 b2 b3 b4 b5 e0 e1 e2 e3 e4 e5 hg2 b22 HG uK
  by_cases hz:z0=0
  ·subst hz;go_wp2;go_loopw [10,11] (fun v10 v11 wr=>∃k:Nat,v11=.int .i64 (k:Nat)/\k<=K/\((v10=.int .i64 0/\((af ns al).take k).any (kJ ns TX)=false)\/(v10=.int .i64 5/\((af ns al).take K).any (kJ ns TX)=true))/\w.grownBy wr none/\wr.cell? ⟨bx,2,none⟩=some (.string TX)) (fun v10 v11 _=>if intOf v10=0 then K-(intOf v11).toNat+1 else 0)
   case atStart=>exact⟨0,rfl,Nat.zero_le _,Or.inl ⟨rfl,rfl⟩,HG2.o,HB2.o⟩
   case round =>
    obtain⟨k,rfl,hk,hv,hg,hb2⟩:=hrel;have oQ:=ae hg;have QJ:=ae hb2
    rcases hv with⟨rfl,hno⟩|⟨rfl,hyes⟩
    ·have qW:=ae hno;obtain⟨oA,mA,cA,hA⟩:=lF.o wr hg;have hkl:=Nat.lt_of_le_of_lt hk HA.o.2.1;obtain⟨g,rfl,cg⟩:=hA k hkl;obtain⟨q,hq⟩:=zN ((af ns al)[k]);obtain⟨lA,hlA⟩:=zN ((af ns al).length);have HQ:=ae hq;have dU:=bP.o k hkl;have aiJ:lA<=1000000:=by rw[<-hlA];exact hAl
     have hkl':k<lA:=by rw[<-hlA];exact hkl
     rw[hq]at cg;rw[hlA]at cA;rw[hq,HL.o]at dU;have Aq:=ae dU
     by_cases oU:k=K
     ·have kz:q=t:=by rw[<-hq];subst oU;exact HA.o.2.2.1 hkl
      have hb:((q:Int) != (t:Int))=false:=by rw[kz];simp
      have HF:Hd (R=0):=by
       show _=_;rw[HR1.o,if_pos (by trivial),HA.o.2.2.2.1,<-oU,qW.o];rfl
      clear hno hg hb2 hA hq oU kz hlA hAl;go_wp2;go_ret;exact⟨dB HF.o.symm,oQ.o⟩
     ·have kz:¬q=t:=by rw[<-hq];exact HA.o.2.2.2.2 k hkl (by omega)
      have hb:((q:Int) != (t:Int))=true:=by simpa using(show ¬(q:Int)=(t:Int) by omega)
      have aiK:k<K:=by omega
      have HST:Hd (((af ns al).take (k+1)).any (kJ ns TX)=kJ ns TX q):=by
       show _=_;rw[Zp _ _ _ hkl,qW.o,Bool.false_or,HQ.o]
      have JY:Hd (kJ ns TX q=true->((af ns al).take K).any (kJ ns TX)=true):=fun hh=>by
       rw[List.any_eq_true];exact⟨q,List.mem_take_iff_getElem.2 ⟨k,by omega,HQ.o⟩,hh⟩
      have wJ:=CK.o q dU wr hg
      cases hko:ah ns q bQ with
      | none =>
       have hx0:kJ ns TX q=false:=by unfold kJ;rw[hko]
       have zM:Hd (Calls prog 14 #[.slice (some ⟨N,0,none⟩) L c,.int .i64 (q:Nat),.string ⟨#[110,97,109,101]⟩] wr fun e w''=>e=.returned (.int .i64 (-1))/\wr=w''):=wJ.mono fun e w'' hh=>by
        refine⟨?_,hh.2⟩;rw[hh.1];unfold gI;rw[hko]
       have gq:Hd (((af ns al).take (k+1)).any (kJ ns TX)=false):=by show _=_;rw[HST.o,hx0]
       clear hno hg hb2 hA hq oU kz hlA hAl hko hx0 wJ HST JY;go_wp2_with (go_at_call 14;refine zM.o.mono ?_;rintro e w'' ⟨rfl,rfl⟩);go_quiet (fail);go_wp2;refine⟨⟨k+1,by go_num,by omega,Or.inl ⟨rfl,gq.o⟩,ay oQ.o nq,(ay (au wr none) nq).cell QJ.o (by simp)⟩,?_⟩;simp[intOf];omega
      | some y =>
       have hyl:=HD.o.tv.choose_spec.lt _ _ (iH hko).1;have hx0:kJ ns TX q=decide (aP ns y=TX):=by unfold kJ;rw[hko]
       have cy:=pM.o y hyl wr hg;rw[HL.o]at hyl;have zM:Hd (Calls prog 14 #[.slice (some ⟨N,0,none⟩) L c,.int .i64 (q:Nat),.string ⟨#[110,97,109,101]⟩] wr fun e w''=>e=.returned (.int .i64 (y:Nat))/\wr=w''):=wJ.mono fun e w'' hh=>by
        refine⟨?_,hh.2⟩;rw[hh.1];unfold gI;rw[hko]
       obtain⟨Y,hY⟩:=zN (aP ns y);rw[hY]at cy hx0;have hyg:decide ((y:Int) ≥ 0)=true:=by simp
       by_cases hYT:Y=TX
       ·have hs:(Y.toList == TX.toList)=true:=by rw[hYT];simp
        have GL:=ae (JY.o (by rw[hx0];exact decide_eq_true hYT));clear hno hg hA hq oU kz hlA hAl hko hx0 wJ HST JY hY hYT;go_wp2_with (go_at_call 14;refine zM.o.mono ?_;rintro e w'' ⟨rfl,rfl⟩);go_quiet (fail);go_wp2;refine⟨⟨k+1,by go_num,by omega,Or.inr ⟨rfl,GL.o⟩,ay oQ.o nq,(ay (au wr none) nq).cell QJ.o (by simp)⟩,?_⟩;simp[intOf]
       ·have hs:=ER hYT;have gq:Hd (((af ns al).take (k+1)).any (kJ ns TX)=false):=by show _=_;rw[HST.o,hx0];exact decide_eq_false hYT
        clear hno hg hA hq oU kz hlA hAl hko hx0 wJ HST JY hY hYT;go_wp2_with (go_at_call 14;refine zM.o.mono ?_;rintro e w'' ⟨rfl,rfl⟩);go_quiet (fail);go_wp2;refine⟨⟨k+1,by go_num,by omega,Or.inl ⟨rfl,gq.o⟩,ay oQ.o nq,(ay (au wr none) nq).cell QJ.o (by simp)⟩,?_⟩;simp[intOf];omega
    ·have HF:Hd (R=5):=by
      show _=_;rw[HR1.o,if_pos (by trivial),HA.o.2.2.2.1,if_pos hyes]
     clear hyes hg hb2 hAl;go_wp2;go_ret;exact⟨dB HF.o.symm,oQ.o⟩
  ·have hb:(z0 == 0)=false:=by simpa using hz
   have HF:Hd (R=z0):=by show _=_;rw[HR1.o,if_neg hz]
   clear hAl;go_wp2;go_loopw [10,11] (fun v10 v11 wr=>v10=.int .i64 z0/\v11=.int .i64 0/\w.grownBy wr none) (fun _ _ _=>0)
   case atStart=>exact⟨rfl,rfl,HG2.o⟩
   case round =>
    obtain⟨rfl,rfl,hg⟩:=hrel;have oQ:=ae hg;clear hg hz;go_wp2;go_ret;exact⟨dB HF.o.symm,oQ.o⟩
 ·have hb1:(KY.toList == [110,97,109,101])=false:=(jy eP.o).2 k1;clear hAl
  by_cases k2:ky=dP
  ·have hb2:(KY.toList == [118,101,114,115,105,111,110])=true:=(jy eP.o).1 k2;have HF:Hd (takeD ⟨kd,ky,tx,nu,ks,pl⟩ okV=R):=by
    show _=_;rw[<-HR.o];unfold lH;rw[if_neg k1,if_pos k2]
   rw[HF.o]at ry;clear k1 k2 HR uK HC2;go_enter func33,ntmps33;go_upto_region 2 with fail
   try rw[HW.o.1]
   try rw[HW.o.2]
   go_wp2_with (go_at_call 57;refine ry.o.mono ?_;rintro e w2 ⟨rfl,hg2⟩);go_ret;exact⟨rfl,ai HG.o hg2.o⟩
  ·have hb2:(KY.toList == [118,101,114,115,105,111,110])=false:=(jy eP.o).2 k2
   by_cases k3:ky=ed
   ·have hb3:(KY.toList == [100,105,103,101,115,116])=true:=(jy eP.o).1 k3;have HF:Hd (takeD ⟨kd,ky,tx,nu,ks,pl⟩ nP=R):=by
     show _=_;rw[<-HR.o];unfold lH;rw[if_neg k1,if_neg k2,if_pos k3]
    rw[HF.o]at HC2;clear k1 k2 k3 HR uK ry;go_enter func33,ntmps33;go_upto_region 2 with fail
    try rw[HW.o.1]
    try rw[HW.o.2]
    go_wp2_with (go_at_call 57;refine HC2.o.mono ?_;rintro e w2 ⟨rfl,hg2⟩);go_ret;exact⟨rfl,ai HG.o hg2.o⟩
   ·have hb3:(KY.toList == [100,105,103,101,115,116])=false:=(jy eP.o).2 k3;have wX:Hd (R=if ky=cZ/\kd=1 then 0 else 7):=by
     show _=_;rw[<-HR.o];unfold lH;rw[if_neg k1,if_neg k2,if_neg k3]
    by_cases k4:ky=cZ
    ·have hb4:(KY.toList == [110,101,101,100,115])=true:=(jy eP.o).1 k4
     by_cases k5:kd=1
     ·have hb5:(kd == 1)=true:=by simpa using k5
      have HF:Hd (R=0):=by show _=_;rw[wX.o,if_pos ⟨k4,k5⟩]
      clear k1 k2 k3 k4 k5 HR uK ry HC2 wX;go_enter func33,ntmps33;go_upto_region 2 with fail
      try rw[HW.o.1]
      try rw[HW.o.2]
      go_wp2;go_ret;exact⟨dB HF.o.symm,HG.o⟩
     ·have hb5:(kd == 1)=false:=by simpa using k5
      have HF:Hd (R=7):=by show _=_;rw[wX.o,if_neg (fun h=>k5 h.2)]
      clear k1 k2 k3 k4 k5 HR uK ry HC2 wX;go_enter func33,ntmps33;go_upto_region 2 with fail
      try rw[HW.o.1]
      try rw[HW.o.2]
      go_wp2;go_ret;exact⟨dB HF.o.symm,HG.o⟩
    ·have hb4:(KY.toList == [110,101,101,100,115])=false:=(jy eP.o).2 k4;have HF:Hd (R=7):=by show _=_;rw[wX.o,if_neg (fun h=>k4 h.1)]
     clear k1 k2 k3 k4 HR uK ry HC2 wX;go_enter func33,ntmps33;go_upto_region 2 with fail
     try rw[HW.o.1]
     try rw[HW.o.2]
     go_wp2;go_ret;exact⟨dB HF.o.symm,HG.o⟩
open Go.RowKit Go.Maps Go.WideMaps Go.Joins
theorem aiL(w:World)(N c:Nat)(ns:List Tn)(h:Dc w N c ns)(al i:Nat)(hi:i<ns.length)(ht:i∈af ns al) :
  Calls prog 34 #[.slice (some ⟨N,0,none⟩) ns.length c,.int .i64 (al:Nat),.int .i64 (i:Nat)] w fun e w'=>e=.returned (.int .i64 (sO ns al i ns[i]))/\w.grownBy w' none:=by
 obtain⟨S,T⟩:=h.tv;have hal:=yM ht;have oP:af ns al=(ns[al]'hal).ks:=by unfold af;rw[List.getElem?_eq_getElem hal]
 obtain⟨hK,hK1,hK2,hK3⟩:=QI (af ns al) i ht;obtain⟨K,jd⟩:=zN ((dS (af ns al) i).length);have HA:Hd ((dS (af ns al) i).length=K/\K<(af ns al).length/\(∀h:K<(af ns al).length,(af ns al)[K]=i)/\dS (af ns al) i=(af ns al).take K/\(∀j (hj:j<(af ns al).length),j<K->¬(af ns al)[j]=i)):=by
  subst jd;exact⟨rfl,hK,fun _=>hK1,hK2,hK3⟩
 have bP:=ae (fun k (hk:k<(af ns al).length)=>T.lt al _ (List.getElem_mem hk));have lF:Hd (∀w',w.grownBy w' none->∃oA mA,w'.cell? ⟨N,al*6+4,none⟩=some (.slice oA (af ns al).length mA)/\∀k (hk:k<(af ns al).length),∃g,oA=some ⟨g,0,none⟩/\w'.cell? ⟨g,k,none⟩=some (.int .i64 ((af ns al)[k]:Nat))):=fun w' hg=>by
  obtain⟨o,m,-,-,-,-,h4,-,o',m',e,hn⟩:=(h.grow hg).node hal;rw[<-oP]at h4 e hn;refine⟨o,m,h4,fun k hk=>?_⟩;injection e with e _ _
  rw[e];exact hn k hk
 have hAl:(af ns al).length<=1000000:=by rw[oP];exact h.kid al hal
 have pM:Hd (∀q (hq:q<ns.length),∀w',w.grownBy w' none->w'.cell? ⟨N,q*6+2,none⟩=some (.string (aP ns q))):=fun q hq w' hg=>by
  obtain⟨-,-,-,-,h2,-⟩:=(h.grow hg).node hq;show _=_;unfold aP;rw[List.getElem?_eq_getElem hq];exact h2
 obtain⟨o,m,e0,e1,e2,e3,e4,e5,-⟩:=h.node hi;have htx:=(T.txt _ (List.getElem_mem hi)).2.1;have QK:Hd (aP ns i=bW ns[i]):=by show _=_;unfold aP;rw[List.getElem?_eq_getElem hi]
 obtain⟨x,hx⟩:=zN (ns[i]);rw[hx]at e0 e1 e2 e3 e4 e5 htx QK ⊢;have hc:=h.cap;have hl:=h.len;obtain⟨L,hL⟩:=zN (ns.length);have HL:=ae hL;have CP:Calls prog 57 #[.agg (dQ x (.slice o x.ks.length m)),.int .i64 0] w fun e w''=>e=.returned (.int .i64 (takeD x nameB))/\Hd (w.grownBy w'' none):=Zo w x o _ m 0 nameB (Or.inl ⟨rfl,rfl⟩) htx
 obtain⟨R,hR⟩:=zN (sO ns al i x);obtain⟨z0,hz0⟩:=zN (takeD x nameB);obtain⟨TX,eH⟩:∃t:ByteArray,bW x=t:=⟨_,rfl⟩;rw[eH]at QK;have HR1:Hd (R=if z0=0 then(if((af ns al).take K).any (fun k=>decide (aP ns k=TX))=true then 5 else if 20<=K then 4 else 0) else z0):=by
  show _=_;rw[<-hR];unfold sO;rw[hz0,HA.o.1,HA.o.2.2.2.1,eH]
 rw[hR];rw[hz0]at CP;obtain⟨kd,ky,tx,nu,ks,pl⟩:=x;unfold dQ at CP;simp only[]at e0 e1 e2 e3 e4 e5 CP;have Zt:=ae CP;rw[hL]at hi hal hc hl ⊢;clear h T oP hK hK1 hK2 hK3 jd hR hx hL eH CP htx ht hz0;go_enter func34,ntmps34;go_wp2_with (go_at_call 57;refine Zt.o.mono ?_);rintro e w2 ⟨rfl,hg2⟩;have HG2:=ae hg2.o;clear e0 e1 e2 e3 e4 e5 hg2 Zt;go_wp2;go_loopw [7,8] (fun v7 v8 wr=>∃(k:Nat) (z:Int),v8=.int .i64 (k:Nat)/\k<=K/\v7=.int .i64 z/\z=(if z0=0 then(if((af ns al).take k).any (fun k=>decide (aP ns k=TX))=true then 5 else 0) else z0)/\w.grownBy wr none) (fun _ v8 _=>K-(intOf v8).toNat)
 case atStart =>
  refine⟨0,z0,rfl,Nat.zero_le _,rfl,?_,HG2.o⟩
  by_cases e:z0=0
  ·rw[if_pos e,e];rfl
  ·rw[if_neg e]
 case round =>
  obtain⟨k,z,rfl,hk,rfl,hz,hg⟩:=hrel;have HZ:=ae hz;have oQ:=ae hg;obtain⟨oA,mA,cA,hA⟩:=lF.o wr hg;have hkl:=Nat.lt_of_le_of_lt hk HA.o.2.1;obtain⟨g,rfl,cg⟩:=hA k hkl;obtain⟨q,hq⟩:=zN ((af ns al)[k]);obtain⟨lA,hlA⟩:=zN ((af ns al).length);have HQ:=ae hq;have dU:=bP.o k hkl;have cq:=pM.o _ dU wr hg;have aiJ:lA<=1000000:=by rw[<-hlA];exact hAl
  have hkl':k<lA:=by rw[<-hlA];exact hkl
  rw[hq]at cg cq;rw[hlA]at cA;rw[hq,HL.o]at dU;have ci:=pM.o i (by rw[HL.o];exact hi) wr hg;rw[QK.o]at ci;obtain⟨Y,hY⟩:=zN (aP ns q);rw[hY]at cq
  by_cases oU:k=K
  ·have kz:q=i:=by rw[<-hq];subst oU;exact HA.o.2.2.1 hkl
   have hb:((q:Int) != (i:Int))=false:=by rw[kz];simp
   have HF:Hd (R=if z=0/\20<=k then 4 else z):=by
    show _=_;rw[HR1.o,HZ.o,<-oU]
    by_cases e1:z0=0
    ·rw[if_pos e1,if_pos e1]
     by_cases e2:((af ns al).take k).any (fun k=>decide (aP ns k=TX))=true
     ·rw[if_pos e2,if_pos e2,if_neg (fun h=>absurd h.1 (by decide))]
     ·rw[if_neg e2,if_neg e2]
      by_cases e3:20<=k
      ·rw[if_pos e3,if_pos ⟨rfl,e3⟩]
      ·rw[if_neg e3,if_neg (fun h=>e3 h.2)]
    ·rw[if_neg e1,if_neg e1,if_neg (fun h=>e1 h.1)]
   clear hz hg hA hq oU kz hlA hAl hY cq ci HZ
   by_cases e1:z=0
   ·by_cases e2:20<=k
    ·have hb2:decide ((k:Int) ≥ 20)=true:=decide_eq_true (by omega);have HF2:Hd (R=4):=by show _=_;rw[HF.o,if_pos ⟨e1,e2⟩]
     have h20:(20:Int)<=(k:Int):=by omega
     subst e1;clear HF;go_wp2;go_ret;exact⟨dB HF2.o.symm,oQ.o⟩
    ·have hb2:decide ((k:Int) ≥ 20)=false:=decide_eq_false (by omega);have HF2:Hd (R=0):=by show _=_;rw[HF.o,if_neg (fun h=>e2 h.2),e1]
     have h20:¬(20:Int)<=(k:Int):=by omega
     subst e1;clear HF;go_wp2;go_ret;exact⟨dB HF2.o.symm,oQ.o⟩
   ·have hbz:(z == 0)=false:=by simpa using e1
    have HF2:Hd (R=z):=by show _=_;rw[HF.o,if_neg (fun h=>e1 h.1)]
    clear HF e1;go_wp2;go_ret;exact⟨dB HF2.o.symm,oQ.o⟩
  ·have kz:¬q=i:=by rw[<-hq];exact HA.o.2.2.2.2 k hkl (by omega)
   have hb:((q:Int) != (i:Int))=true:=by simpa using(show ¬(q:Int)=(i:Int) by omega)
   have aiK:k<K:=by omega
   have HST:Hd (((af ns al).take (k+1)).any (fun k=>decide (aP ns k=TX))=(((af ns al).take k).any (fun k=>decide (aP ns k=TX)) || decide (Y=TX))):=by
    show _=_;rw[Zp _ _ _ hkl,HQ.o,hY]
   clear hz hg hA hq oU kz hlA hAl hY
   by_cases e1:z=0
   ·have hz0:z0=0/\((af ns al).take k).any (fun k=>decide (aP ns k=TX))=false:=by
     have hh:=HZ.o;rw[e1]at hh
     by_cases e:z0=0
     ·rw[if_pos e]at hh;refine⟨e,?_⟩
      cases hc:((af ns al).take k).any (fun k=>decide (aP ns k=TX)) with
      | false=>rfl
      | true=>rw[hc]at hh;exact absurd hh (by decide)
     ·rw[if_neg e]at hh;exact absurd hh.symm e
    by_cases hYT:Y=TX
    ·have hs:(Y.toList == TX.toList)=true:=by rw[hYT];simp
     have gq:Hd (5=(if z0=0 then(if((af ns al).take (k+1)).any (fun k=>decide (aP ns k=TX))=true then 5 else 0) else z0)):=by
      show _=_;rw[if_pos hz0.1,HST.o,hz0.2,decide_eq_true hYT];rfl
     subst e1;clear hz0 hYT HST HZ;go_wp2;go_quiet (fail);go_wp2;refine⟨⟨k+1,5,by go_num,by omega,rfl,gq.o,ay oQ.o nq⟩,?_⟩;simp[intOf];omega
    ·have hs:=ER hYT;have gq:Hd (0=(if z0=0 then(if((af ns al).take (k+1)).any (fun k=>decide (aP ns k=TX))=true then 5 else 0) else z0)):=by
      show _=_;rw[if_pos hz0.1,HST.o,hz0.2,decide_eq_false hYT];rfl
     subst e1;clear hz0 hYT HST HZ;go_wp2;go_quiet (fail);go_wp2;refine⟨⟨k+1,0,by go_num,by omega,rfl,gq.o,ay oQ.o nq⟩,?_⟩;simp[intOf];omega
   ·have hbz:(z == 0)=false:=by simpa using e1
    have gq:Hd (z=(if z0=0 then(if((af ns al).take (k+1)).any (fun k=>decide (aP ns k=TX))=true then 5 else 0) else z0)):=by
     have hh:=HZ.o
     by_cases e:z0=0
     ·rw[if_pos e]at hh;show _=_;rw[if_pos e,HST.o]
      cases hc:((af ns al).take k).any (fun k=>decide (aP ns k=TX)) with
      | false=>rw[hc]at hh;exact absurd hh e1
      | true=>rw[hc]at hh;exact hh
     ·show _=_;rw[if_neg e]at hh ⊢;exact hh
    clear HST HZ e1;go_wp2;go_quiet (fail);go_wp2;refine⟨⟨k+1,z,by go_num,by omega,rfl,gq.o,ay oQ.o nq⟩,?_⟩;simp[intOf];omega
open Go.RowKit Go.Maps Go.WideMaps Go.Joins
theorem aiM(w:World)(N c:Nat)(ns:List Tn)(h:Dc w N c ns)(i:Nat)(h0:0<i)(hi:i<ns.length) :
  Calls prog 13 #[.slice (some ⟨N,0,none⟩) ns.length c,.int .i64 (i:Nat)] w fun e w'=>e=.returned (.int .i64 (iD ns i ns[i]))/\w.grownBy w' none:=by
 obtain⟨S,T⟩:=h.tv;obtain⟨p,hp⟩:=T.par i h0 hi;have hpl:=yM hp;have hpi:=T.gt _ _ hp;have hpn:=oM T hp;have C1:Hd (Calls prog 31 #[.slice (some ⟨N,0,none⟩) ns.length c,.int .i64 (i:Nat)] w fun e w'=>e=.returned (.int .i64 (p:Nat))/\w=w'):=(Zn w N c ns h i p hp).mono fun e w' hh=>⟨hh.1,hh.2.symm⟩
 obtain⟨o,m,e0,e1,e2,e3,e4,e5,-⟩:=h.node hi;obtain⟨R,hR⟩:=zN (iD ns i ns[i]);rw[hR];unfold iD at hR;rw[hpn]at hR;obtain⟨x,hx⟩:=zN (ns[i]);rw[hx]at e0 e1 e2 e3 e4 e5 hR;obtain⟨kd,ky,tx,nu,ks,pl⟩:=x;simp only[]at e0 e1 e2 e3 e4 e5;obtain⟨KY,iC⟩:∃t:ByteArray,⟨ky.toArray⟩=t:=⟨_,rfl⟩;have eP:=ae iC;rw[iC]at e1;obtain⟨bx,hbx⟩:=zN (w.heap.size);obtain⟨W,hW⟩:=zN (w.alloc (.cells #[.int .i64 kd,.string KY,.string ⟨tx.toArray⟩,.int .i64 nu,.slice o ks.length m,.int .i64 (pl:Nat)] 45));have hG:=hW ▸ bC (au w none) _;have HG:=ae hG;have hB:W.heap[bx]?=some (.cells #[.int .i64 kd,.string KY,.string ⟨tx.toArray⟩,.int .i64 nu,.slice o ks.length m,.int .i64 (pl:Nat)] 45 (0,0)):=by rw[<-hW,<-hbx];exact heap_alloc_new _ _
 have b0:W.cell? ⟨bx,0,none⟩=some (.int .i64 kd):=by rw[ag hB];rfl
 have b1:W.cell? ⟨bx,1,none⟩=some (.string KY):=by rw[ag hB];rfl
 have b3:W.cell? ⟨bx,3,none⟩=some (.int .i64 nu):=by rw[ag hB];rfl
 have HW:Hd (w.alloc (.cells #[.int .i64 kd,.string KY,.string ⟨tx.toArray⟩,.int .i64 nu,.slice o ks.length m,.int .i64 (pl:Nat)] 45)=W/\w.heap.size=bx):=⟨hW,hbx⟩;have hc:=h.cap;have hl:=h.len;obtain⟨L,hL⟩:=zN (ns.length)
 -- where it is no kid of the root
 have PR:Hd (¬p=0->∃(r op mp:Nat) (ox:Option Addr) (kp:Int) (Lp Ia:Nat),((p:Int) == 0)=false/\Calls prog 31 #[.slice (some ⟨N,0,none⟩) L c,.int .i64 (p:Nat)] W (fun e w'=>e=.returned (.int .i64 (r:Nat))/\W=w')/\W.cell? ⟨N,p*6,none⟩=some (.int .i64 kp)/\W.cell? ⟨N,p*6+4,none⟩=some (.slice ox Lp mp)/\Lp<=1000000/\Calls prog 32 #[.slice ox Lp mp,.int .i64 (i:Nat)] W (fun e w'=>e=.returned (.int .i64 (Ia:Nat))/\W=w')/\Calls prog 33 #[.slice (some ⟨N,0,none⟩) L c,.int .i64 (r:Nat),.int .i64 (p:Nat),.int .i64 (i:Nat)] W (fun e w'=>e=.returned (.int .i64 (lH ns r p ⟨kd,ky,tx,nu,ks,pl⟩))/\Hd (W.grownBy w' none))/\Calls prog 34 #[.slice (some ⟨N,0,none⟩) L c,.int .i64 (p:Nat),.int .i64 (i:Nat)] W (fun e w'=>e=.returned (.int .i64 (sO ns p i ⟨kd,ky,tx,nu,ks,pl⟩))/\Hd (W.grownBy w' none))/\(if r=0/\kp=2 then(if 50<=Ia then 4 else 0) else if kp=0 then lH ns r p ⟨kd,ky,tx,nu,ks,pl⟩ else sO ns p i ⟨kd,ky,tx,nu,ks,pl⟩)=R):=fun hp0=>by
  rw[if_neg hp0]at hR;obtain⟨r,hr⟩:=T.par p (by omega) hpl;rw[oM T hr]at hR;have JZ:=h.grow hG;obtain⟨op,mp,f0,-,-,-,f4,-,hn⟩:=JZ.node hpl;have kAt:af ns p=(ns[p]'hpl).ks:=by unfold af;rw[List.getElem?_eq_getElem hpl]
  have hkp:ak ns p=(ns[p]'hpl).kd:=by unfold ak;rw[List.getElem?_eq_getElem hpl]
  rw[hkp]at hR;have P1:=aiI W N c ns JZ r p i hi hr;have P2:=aiL W N c ns JZ p i hi hp;have P3:=Zn W N c ns JZ p r hr;rw[hx,hL]at P1 P2;rw[hL]at P3;refine⟨r,0,mp,op,(ns[p]'hpl).kd,(ns[p]'hpl).ks.length,(dS (af ns p) i).length,by simpa using(show ¬(p:Int)=0 by omega),P3.mono fun e w' hh=>⟨hh.1,hh.2.symm⟩,f0,f4,h.kid p hpl,(Zm W op mp _ (ns[p]'hpl).ks i rfl hn (h.kid p hpl)).mono fun e w' hh=>?_,P1,P2,hR⟩;refine⟨?_,hh.2.symm⟩;rw[hh.1,kAt];unfold uJ;rw[if_pos (by rw[<-kAt];exact hp)]
 have HR0:Hd (p=0->wz ⟨kd,ky,tx,nu,ks,pl⟩=R):=fun e=>by rw[if_pos e]at hR;exact hR
 rw[hL]at hi hpl hc hl C1 ⊢;clear h T hp hpi hpn hR hx iC hbx hW hG hB hL;go_enter func13,ntmps13;go_wp2_with (go_at_call 31;refine C1.o.mono ?_);rintro e w' ⟨rfl,rfl⟩;go_upto_region 3 with fail
 try rw[HW.o.1]
 try rw[HW.o.2]
 clear e0 e1 e2 e3 e4 e5 C1 HW
 by_cases hp0:p=0
 ·have HR:=ae (HR0.o hp0);subst hp0;clear PR HR0
  by_cases k1:ky=fM
  ·have hb1:(KY.toList == [102,111,114,109,97,116])=true:=(jy eP.o).1 k1
   by_cases k2:kd=4
   ·have hb2:(kd != 4)=false:=by rw[k2];rfl
    by_cases k3:nu=1
    ·have hb3:(nu != 1)=false:=by rw[k3];rfl
     have HF:Hd (R=0):=by show _=_;rw[<-HR.o];unfold wz;rw[if_pos k1,if_neg (by simpa using k2),if_neg (by simpa using k3)]
     clear k1 k2 k3 HR;go_wp2;go_ret;exact⟨dB HF.o.symm,HG.o⟩
    ·have hb3:(nu != 1)=true:=by simpa using k3
     have HF:Hd (R=3):=by show _=_;rw[<-HR.o];unfold wz;rw[if_pos k1,if_neg (by simpa using k2),if_pos k3]
     clear k1 k2 k3 HR;go_wp2;go_ret;exact⟨dB HF.o.symm,HG.o⟩
   ·have hb2:(kd != 4)=true:=by simpa using k2
    have HF:Hd (R=7):=by show _=_;rw[<-HR.o];unfold wz;rw[if_pos k1,if_pos k2]
    clear k1 k2 HR;go_wp2;go_ret;exact⟨dB HF.o.symm,HG.o⟩
  ·have hb1:(KY.toList == [102,111,114,109,97,116])=false:=(jy eP.o).2 k1;have HR2:Hd (R=if ky=dN/\kd=2 then 0 else 7):=by show _=_;rw[<-HR.o];unfold wz;rw[if_neg k1]
   by_cases k2:ky=dN
   ·have hb2:(KY.toList == [112,97,99,107,97,103,101])=true:=(jy eP.o).1 k2
    by_cases k3:kd=2
    ·have hb3:(kd == 2)=true:=by simpa using k3
     have HF:Hd (R=0):=by show _=_;rw[HR2.o,if_pos ⟨k2,k3⟩]
     clear k1 k2 k3 HR HR2;go_wp2;go_ret;exact⟨dB HF.o.symm,HG.o⟩
    ·have hb3:(kd == 2)=false:=by simpa using k3
     have HF:Hd (R=7):=by show _=_;rw[HR2.o,if_neg (fun h=>k3 h.2)]
     clear k1 k2 k3 HR HR2;go_wp2;go_ret;exact⟨dB HF.o.symm,HG.o⟩
   ·have hb2:(KY.toList == [112,97,99,107,97,103,101])=false:=(jy eP.o).2 k2;have HF:Hd (R=7):=by show _=_;rw[HR2.o,if_neg (fun h=>k2 h.1)]
    clear k1 k2 HR HR2;go_wp2;go_ret;exact⟨dB HF.o.symm,HG.o⟩
 ·obtain⟨r,-,mp,ox,kp,Lp,Ia,hbp,P3,f0,f4,hLp,P4,P1,P2,hRR⟩:=PR.o hp0;have C2:=ae P3;have CI:=ae P4;have FX:=ae P1;have FY:=ae P2;have HR:=ae hRR;clear PR HR0 P1 P2 P3 P4 hRR hp0 b0 b1 b3;go_wp2_with (go_at_call 31;refine C2.o.mono ?_);rintro e w' ⟨rfl,rfl⟩;clear C2
  by_cases q:r=0/\kp=2
  ·obtain⟨q1,q2⟩:=q;subst q1;have hb2:(kp == 2)=true:=by simpa using q2
   by_cases q3:50<=Ia
   ·have hb3:(50:Int)<=(Ia:Int):=by omega
    have HF:Hd (R=4):=by show _=_;rw[<-HR.o,if_pos ⟨rfl,q2⟩,if_pos q3]
    clear q2 q3 HR FX FY;go_wp2_with (go_at_call 32;refine CI.o.mono ?_;rintro e w' ⟨rfl,rfl⟩);go_ret;exact⟨dB HF.o.symm,HG.o⟩
   ·have hb3:¬(50:Int)<=(Ia:Int):=by omega
    have HF:Hd (R=0):=by show _=_;rw[<-HR.o,if_pos ⟨rfl,q2⟩,if_neg q3]
    clear q2 q3 HR FX FY;go_wp2_with (go_at_call 32;refine CI.o.mono ?_;rintro e w' ⟨rfl,rfl⟩);go_ret;exact⟨dB HF.o.symm,HG.o⟩
  ·have HR2:Hd ((if kp=0 then lH ns r p ⟨kd,ky,tx,nu,ks,pl⟩ else sO ns p i ⟨kd,ky,tx,nu,ks,pl⟩)=R):=by show _=_;rw[<-HR.o,if_neg q]
   have hq:(((r:Int) == 0)=true/\(kp == 2)=false)\/((r:Int) == 0)=false:=by
    by_cases q1:r=0
    ·exact Or.inl ⟨by rw[q1];rfl,by simpa using fun e=>q ⟨q1,e⟩⟩
    ·exact Or.inr (by simpa using(show ¬(r:Int)=0 by omega))
   clear q HR CI
   by_cases q3:kp=0
   ·have hb3:(kp == 0)=true:=by simpa using q3
    have HF:Hd (lH ns r p ⟨kd,ky,tx,nu,ks,pl⟩=R):=by show _=_;rw[<-HR2.o,if_pos q3]
    rw[HF.o]at FX;clear q3 HR2 FY
    rcases hq with⟨hq1,hq2⟩|hq1
    all_goals (
     go_wp2_with (go_at_call 33;refine FX.o.mono ?_;rintro e w' ⟨rfl,hg⟩);go_ret;exact⟨rfl,ai HG.o hg.o⟩)
   ·have hb3:(kp == 0)=false:=by simpa using q3
    have HF:Hd (sO ns p i ⟨kd,ky,tx,nu,ks,pl⟩=R):=by show _=_;rw[<-HR2.o,if_neg q3]
    rw[HF.o]at FY;clear q3 HR2 FX
    rcases hq with⟨hq1,hq2⟩|hq1
    all_goals (
     go_wp2_with (go_at_call 34;refine FY.o.mono ?_;rintro e w' ⟨rfl,hg⟩);go_ret;exact⟨rfl,ai HG.o hg.o⟩)
open Go.RowKit Go.Maps Go.WideMaps Go.Joins
theorem aiN{A:List Nat}{f:Nat->List Nat}{P:Nat->Bool}{i:Nat}(hi:i<A.length){k:Nat}(hk:k<(f A[i]).length)(h1:∀y∈(A.take i).flatMap f,P y=false)(h2:∀j (hj:j<(f A[i]).length),j<k->P (f A[i])[j]=false)(h3:P (f A[i])[k]=true):(A.flatMap f).find? P=some (f A[i])[k]:=by
 have hA:A.flatMap f=(A.take i).flatMap f++(f A[i]++(A.drop (i+1)).flatMap f):=by
  conv=>lhs;rw[<-List.take_append_drop i A,List.drop_eq_getElem_cons hi,List.flatMap_append,List.flatMap_cons]
 have e1:((A.take i).flatMap f).find? P=none:=by rw[List.find?_eq_none];intro y hy;rw[h1 y hy];simp
 rw[hA,List.find?_append,e1,Option.none_or,List.find?_append,IC P _ k hk h2 h3];rfl
theorem aiO{A:List Nat}{f:Nat->List Nat}{P:Nat->Bool}{i:Nat}(hi:i<A.length)(h1:∀y∈(A.take i).flatMap f,P y=false)(h2:∀j (hj:j<(f A[i]).length),P (f A[i])[j]=false):∀y∈(A.take (i+1)).flatMap f,P y=false:=fun y hy=>by
 rw[List.take_succ_eq_append_getElem hi,List.flatMap_append,List.mem_append,List.flatMap_singleton]at hy
 rcases hy with hy|hy
 ·exact h1 y hy
 ·obtain⟨j,hj,rfl⟩:=List.getElem_of_mem hy;exact h2 j hj
theorem aiP(w:World)(N c:Nat)(ns:List Tn)(h:Dc w N c ns)(p:Nat)(hp:p<ns.length)(vo:Value)(es:List En)(hE:EnS w vo es)(hes:es=(af ns p).map (iP ns))(hF:∀t∈af ns p,(ah ns t cZ).isSome=true)(F:Option Nat)(hFF:((af ns p).flatMap (kl ns)).find? (fun y=>!aT es (aP ns y))=F) :
  Calls prog 15 #[.slice (some ⟨N,0,none⟩) ns.length c,.int .i64 (p:Nat),vo] w fun e w'=>(∀y,F=some y->e=.returned (.tuple #[.slice none 0 0,.int .i64 6,.int .i64 (iM ns y:Nat)]))/\(F=none->e=.returned (.tuple #[vo,.int .i64 0,.int .i64 0]))/\w.grownBy w' none:=by
 obtain⟨S,T⟩:=h.tv;have oP:af ns p=(ns[p]'hp).ks:=by unfold af;rw[List.getElem?_eq_getElem hp]
 have hel:es.length=(af ns p).length:=by rw[hes,List.length_map]
 have hAl:(af ns p).length<=1000000:=by rw[oP];exact h.kid p hp
 obtain⟨A,hA⟩:=zN (af ns p);have bP:=ae (fun k (hk:k<A.length)=>T.lt p _ (by rw[hA];exact List.getElem_mem hk));have lF:Hd (∀w',w.grownBy w' none->∃oA mA,w'.cell? ⟨N,p*6+4,none⟩=some (.slice oA A.length mA)/\∀k (hk:k<A.length),∃g,oA=some ⟨g,0,none⟩/\w'.cell? ⟨g,k,none⟩=some (.int .i64 (A[k]:Nat))):=fun w' hg=>by
  obtain⟨o,m,-,-,-,-,h4,-,o',m',e,hn⟩:=(h.grow hg).node hp;rw[<-oP,hA]at h4 e hn;refine⟨o,m,h4,fun k hk=>?_⟩;injection e with e _ _
  rw[e];exact hn k hk
 have EG:Hd (∀k (hk:k<A.length),∃y,ah ns A[k] cZ=some y/\y<ns.length/\kl ns A[k]=af ns y):=fun k hk=>by
  have:=hF A[k] (by rw[hA];exact List.getElem_mem hk);obtain⟨y,hy⟩:=Option.isSome_iff_exists.1 this;exact⟨y,hy,T.lt _ _ (iH hy).1,by unfold kl;rw[hy]⟩
 have FZ:Hd (∀y (hy:y<ns.length),∀w',w.grownBy w' none->∃oA mA,w'.cell? ⟨N,y*6+4,none⟩=some (.slice oA (af ns y).length mA)/\∀k (hk:k<(af ns y).length),∃g,oA=some ⟨g,0,none⟩/\w'.cell? ⟨g,k,none⟩=some (.int .i64 ((af ns y)[k]:Nat))/\(af ns y)[k]<ns.length/\w'.cell? ⟨N,(af ns y)[k]*6+5,none⟩=some (.int .i64 (iM ns (af ns y)[k]:Nat))):=fun y hy w' hg=>by
  have hky:af ns y=(ns[y]'hy).ks:=by unfold af;rw[List.getElem?_eq_getElem hy]
  obtain⟨o,m,-,-,-,-,h4,-,o',m',e,hn⟩:=(h.grow hg).node hy;rw[<-hky]at h4 e hn;refine⟨o,m,h4,fun k hk=>?_⟩;injection e with e _ _
  rw[e];obtain⟨g,g1,g2⟩:=hn k hk;have hl:=T.lt y _ (List.getElem_mem hk);obtain⟨-,-,-,-,-,-,-,h5,-⟩:=(h.grow hg).node hl;refine⟨g,g1,g2,hl,?_⟩;unfold iM;rw[List.getElem?_eq_getElem hl];exact h5
 have rC:Hd (∀y (hy:y<ns.length),(af ns y).length<=1000000):=fun y hy=>by
  have:af ns y=(ns[y]'hy).ks:=by unfold af;rw[List.getElem?_eq_getElem hy]
  rw[this];exact h.kid y hy
 have CK:Hd (∀q,q<ns.length->∀w',w.grownBy w' none->Calls prog 14 #[.slice (some ⟨N,0,none⟩) ns.length c,.int .i64 (q:Nat),.string ⟨#[110,101,101,100,115]⟩] w' fun e w''=>e=.returned (.int .i64 (gI ns q cZ))/\w'=w''):=fun q hq w' hg=>((h.grow hg).cKid q hq cZ).mono fun e w'' hh=>⟨hh.1,hh.2.symm⟩
 have qX:=ae (fun w' (hg:w.grownBy w' none)=>hE.grow hg);obtain⟨o,co,rfl⟩:=DU hE;have CE:Hd (∀n w',w.grownBy w' none->Calls prog 35 #[.slice o es.length co,.string n] w' fun e w''=>∃z:Int,e=.returned (.int .i64 z)/\Hd (EntI es n z/\w'.grownBy w'' none)):=fun n w' hg=>(afp _ es n w' (hE.grow hg) (by omega)).mono fun e w'' ⟨z,a1,a2,a3⟩=>⟨z,a1,a2,a3⟩
 have AY:Hd (∀i (hi:i<es.length) (hi':i<A.length),es[i].nd=(kl ns A[i]).map (aP ns)):=fun i hi hi'=>by
  subst hA;simp only[hes,List.getElem_map];rfl
 have kN:Hd ((A.flatMap (kl ns)).find? (fun y=>!aT es (aP ns y))=F):=by rw[<-hA];exact hFF
 have hc:=h.cap;have hl:=h.len;obtain⟨n,hn⟩:=zN (es.length);have HN:Hd (es.length=n/\A.length=n):=⟨hn,by rw[<-hA,<-hel,hn]⟩;obtain⟨L,hL⟩:=zN (ns.length);have HL:=ae hL;have hnl:n<=1000000:=by omega
 rw[hL]at hp hc hl CK ⊢;rw[hn]at CE ⊢;clear h T oP hel hAl hA hn hL hE hes hF hFF;go_enter func15,ntmps15;go_wp2;go_loopw [9] (fun v9 wr=>∃i:Nat,v9=.int .i64 (i:Nat)/\i<=n/\(∀y∈(A.take i).flatMap (kl ns),(fun y=>!aT es (aP ns y)) y=false)/\w.grownBy wr none) (fun v9 _=>n-(intOf v9).toNat)
 case atStart=>exact⟨0,rfl,Nat.zero_le _,fun y hy=>(by cases hy),au _ _⟩
 case round =>
  obtain⟨i,rfl,hi,hpre,hg⟩:=hrel;have HP:=ae hpre;have HG:=ae hg;clear hpre
  by_cases hlt:i<n
  ·have hiA:i<A.length:=by rw[HN.o.2];exact hlt
   have J5:i<es.length:=by rw[HN.o.1];exact hlt
   obtain⟨oA,mA,cA,hcA⟩:=lF.o wr hg;obtain⟨g,rfl,cg⟩:=hcA i hiA;obtain⟨y,hy,hyl,hkl⟩:=EG.o i hiA;have wJ:=CK.o A[i] (by rw[<-HL.o];exact bP.o i hiA) wr hg;have dU:=bP.o i hiA;obtain⟨q,hq⟩:=zN (A[i]);have HQ:Hd (A[i]=q/\kl ns q=af ns y):=⟨hq,by rw[<-hq];exact hkl⟩;rw[hq]at cg wJ hy dU;rw[HL.o]at dU;rw[HN.o.2]at cA;have zM:Hd (Calls prog 14 #[.slice (some ⟨N,0,none⟩) L c,.int .i64 (q:Nat),.string ⟨#[110,101,101,100,115]⟩] wr fun e w''=>e=.returned (.int .i64 (y:Nat))/\wr=w''):=wJ.mono fun e w'' hh=>by
    refine⟨?_,hh.2⟩;rw[hh.1];unfold gI;rw[hy]
   have Zu:=ae hyl;rw[HL.o]at hyl;clear hcA hq hkl wJ hy hg;go_wp2_with (go_at_call 14;refine zM.o.mono ?_;rintro e w'' ⟨rfl,rfl⟩);clear cA cg zM;obtain⟨wo,hwo⟩:∃wo,wo=wr:=⟨_,rfl⟩;subst hwo;obtain⟨M,hM⟩:=zN ((af ns y).length);have HM:=ae hM;have Jo:M<=1000000:=by rw[<-hM];exact rC.o y Zu.o
   clear hM;go_loopw [11] (fun v11 wr=>∃k:Nat,v11=.int .i64 (k:Nat)/\k<=M/\(∀j (hj:j<(af ns y).length),j<k->(fun y=>!aT es (aP ns y)) (af ns y)[j]=false)/\w.grownBy wr none) (fun v11 _=>M-(intOf v11).toNat)
   case atStart=>exact⟨0,rfl,Nat.zero_le _,fun j hj h=>absurd h (by omega),HG.o⟩
   case round =>
    obtain⟨k,rfl,hk,hpre,hg⟩:=hrel;have QL:=ae hpre;have J6:=ae hg;have hEr:=qX.o wr hg;obtain⟨a,ho,hca,hat⟩:=O9 hEr J5;have hEi:=hat i J5;obtain⟨-,-,-,sv,e3,htx⟩:=hEi;have J7:es[i].nd.length=M:=by
     rw[AY.o i J5 hiA,List.length_map];simp only[HQ.o.1];rw[HQ.o.2,HM.o]
    have aiQ:Hd (es[i].nd=(af ns y).map (aP ns)):=by
     show _=_;rw[AY.o i J5 hiA];simp only[HQ.o.1];rw[HQ.o.2]
    obtain⟨so,sc,rfl⟩:=xB htx;rw[J7]at e3;rw[HN.o.1]at hca;subst ho;clear hpre hat hEr
    by_cases sJ:k<M
    ·have QM:(k:Int)<(M:Int):=by omega
     have Zv:k<(af ns y).length:=by rw[HM.o];exact sJ
     obtain⟨oY,mY,cY,Zw⟩:=FZ.o y Zu.o wr hg;obtain⟨gy,rfl,cgy,hzl,cz⟩:=Zw k Zv;have hkd:k<es[i].nd.length:=by rw[J7];exact sJ
     have ctx:∃a2,so=some a2/\M<=sc/\wr.cell? (a2.add k)=some (.string (aP ns (af ns y)[k])):=by
      rcases htx with⟨e1,e2⟩|⟨a2,cap2,e1,e2,e3'⟩
      ·rw[e2]at hkd;exact absurd hkd (by simp)
      ·injection e1 with e4 e5 e6
       refine⟨a2,e4,by omega,?_⟩;have:=e3' k hkd;rw[this];simp only[aiQ.o,List.getElem_map]
     obtain⟨a2,rfl,hsc,ct⟩:=ctx;have J8:=CE.o (aP ns (af ns y)[k]) wr hg;obtain⟨z,hz⟩:=zN ((af ns y)[k]);have HZ:=ae hz;rw[hz]at cgy cz hzl ct J8;rw[HL.o]at hzl;rw[HM.o]at cY;obtain⟨TX,eH⟩:=zN (aP ns z);have nU:=ae eH;rw[eH]at ct J8;have CEh:=ae J8;have J9:Hd (wr.cell? ⟨N,y*6+4,none⟩=some (.slice (some ⟨gy,0,none⟩) M mY)/\wr.cell? ⟨gy,k,none⟩=some (.int .i64 (z:Nat))/\wr.cell? ⟨N,z*6+5,none⟩=some (.int .i64 (iM ns z:Nat))):=⟨cY,cgy,cz⟩;clear hg Zw hz eH htx J8 J7 cY cgy cz hkd;go_wp2_with (go_at_call 35;refine CEh.o.mono ?_);rintro e w5 x5 rfl h5;have iK:=ae (ai J6.o h5.o.2);have f1:=h5.o.2.cell J9.o.1 (by simp);have f2:=h5.o.2.cell J9.o.2.1 (by simp);have f3:=h5.o.2.cell J9.o.2.2 (by simp);have QN:Hd ((fun y=>!aT es (aP ns y)) (af ns y)[k]=!aT es TX):=by
      show(!aT es (aP ns (af ns y)[k]))=_;rw[HZ.o,nU.o]
     clear e3 ct J9
     by_cases hx5:x5<0
     ·have hb:=decide_eq_true hx5;have hno:=(h5.o.1.neg).1 hx5;obtain⟨Z,hZ⟩:∃Z:Nat,iM ns z=Z:=⟨_,rfl⟩;have F5:Hd (F=some z/\iM ns z=Z):=by
       refine⟨?_,hZ⟩;have h1:=aiN (A:=A) (f:=kl ns) (P:=fun y=>!aT es (aP ns y)) hiA (k:=k) (by simp only[HQ.o.1];rw[HQ.o.2];exact Zv) HP.o (fun j hj hjk=>by
        simp only[HQ.o.1,HQ.o.2];exact QL.o j (by simp only[HQ.o.1,HQ.o.2]at hj;exact hj) hjk) (by
        simp only[HQ.o.1,HQ.o.2];rw[HZ.o,nU.o,hno];rfl)
       rw[kN.o]at h1;rw[h1];simp only[HQ.o.1,HQ.o.2,HZ.o]
      rw[hZ]at f3;clear hno hZ h5 QN;go_wp2;go_quiet (fail);go_wp2;refine bodyPost_ret (results_tmp3 (t:=6) (u:=7) (v:=8) rfl _ _ _) rfl ?_;refine⟨fun y hy=>?_,fun hn=>?_,ay iK.o nq⟩
      ·rw[F5.o.1]at hy
       cases hy
       rw[F5.o.2];rfl
      ·rw[F5.o.1]at hn
       cases hn
     ·have hb:=decide_eq_false hx5;have hyes:aT es TX=true:=by
       cases hh:aT es TX with
       | true=>rfl
       | false=>exact absurd ((h5.o.1.neg).2 hh) hx5
      have HP2:Hd (∀j (hj:j<(af ns y).length),j<k+1->(fun y=>!aT es (aP ns y)) (af ns y)[j]=false):=fun j hj hjk=>by
       by_cases hj':j<k
       ·exact QL.o j hj hj'
       ·have e':j=k:=by omega
        subst e';rw[QN.o,hyes];rfl
      clear hyes h5 QN f1 f2 f3;go_wp2;refine⟨⟨k+1,by go_num,by omega,HP2.o,iK.o⟩,?_⟩;simp[intOf];omega
    ·have QM:¬(k:Int)<(M:Int):=by omega
     have gq:Hd (∀y∈(A.take (i+1)).flatMap (kl ns),(fun y=>!aT es (aP ns y)) y=false):=aiO hiA HP.o (fun j hj=>by
      simp only[HQ.o.1,HQ.o.2]at hj ⊢;exact QL.o j hj (by rw[HM.o]at hj;omega))
     clear hg htx J7;go_wp2;refine⟨⟨i+1,by go_num,by omega,gq.o,J6.o⟩,?_⟩;simp[intOf];omega
  ·have hin:i=n:=by omega
   have F5:Hd (F=none):=by
    show _=_;rw[<-kN.o,List.find?_eq_none];intro y hy;have:=HP.o y (by rw[hin,<-HN.o.2,List.take_length];exact hy);simpa using this
   clear hg hin;go_wp2;refine bodyPost_ret (results_tmp3 (t:=6) (u:=7) (v:=8) rfl _ _ _) rfl ?_;exact⟨fun y hy=>(by rw[F5.o]at hy;cases hy),fun _=>rfl,HG.o⟩
open Go.RowKit Go.Maps Go.WideMaps Go.Joins
structure RnB(B:Nat)(w:World)(es:List En)(ve:Value)(vs:List Value):Prop where
 len:vs.length=es.length
 row:w.ownsRow B 47 4 ve es.length (vC es vs)
 nee:∀j (hj:j<es.length),w.ownsRow B 9 1 (vs[j]'(by rw[len];exact hj)) es[j].nd.length (es[j].nd.map Value.string)
section
variable {B:Nat} {w w':World} {es:List En} {ve:Value} {vs:List Value}
theorem RnB.ens(h:RnB B w es ve vs):EnS w ve es:=by
 rcases h.row.2 with⟨e1,e2⟩|⟨g,cap,cu,e1,hb,hgg,hn,hm,hs,ht⟩
 ·exact Or.inl ⟨e1,List.eq_nil_of_length_eq_zero (by omega)⟩
 ·refine Or.inr ⟨⟨g,0,none⟩,cap,e1,hn,fun i hi=>?_⟩;have hr:=h.row;rw[e1]at hr;have key:∀k u,(rO es[i] (vs[i]'(by rw[h.len];exact hi)))[k]?=some u->w.cell? ⟨g,i*4+k,none⟩=some u:=fun k u hu=>by
   have:=hr.cells (g:=g) rfl (i*4+k) u (U5 es vs h.len.symm i hi k u hu);rw[nC]at this;exact this
  unfold EnAt;rw[nC];exact⟨key 0 _ rfl,key 1 _ rfl,key 2 _ rfl,_,key 3 _ rfl,Nh (base:=B) rfl (h.nee i hi)⟩
theorem RnB.grow(h:RnB B w es ve vs)(hg:w.grownBy w' none):RnB B w' es ve vs:=⟨h.len,(aV hg).row h.row,fun j hj=>(aV hg).row (h.nee j hj)⟩
theorem Zx(B:Nat)(w:World):RnB B w [] (.slice none 0 0) []:=⟨rfl,World.ownsRow_nil _ _ _ _,fun j hj=>absurd hj (by simp)⟩
theorem RnB.push(h:RnB B w es ve vs){v' nv:Value}{x:En}(ho:w'.ownsRow B 47 4 v' (es.length+1) (vC es vs++rO x nv))(hg:w.grownBy w' ve.ownBlock)(hn:w.ownsRow B 9 1 nv x.nd.length (x.nd.map Value.string)):RnB B w' (es++[x]) v' (vs++[nv]):=by
 have kt:Kt 9 w w':=zB h.row hg (by decide);refine⟨by simp[h.len],?_,fun j hj=>?_⟩
 ·rw[acS es vs x nv h.len.symm,List.length_append];exact ho
 ·by_cases e:j<es.length
  ·have e1:(es++[x])[j]=es[j]:=List.getElem_append_left e;have e2:(vs++[nv])[j]'(by simp[h.len];omega)=vs[j]'(by rw[h.len];exact e):=List.getElem_append_left (by rw[h.len];exact e);rw[e1,e2];exact kt.row (h.nee j e)
  ·have hl:j=es.length:=by simp at hj;omega
   have e1:(es++[x])[j]=x:=by subst hl;simp
   have e2:(vs++[nv])[j]'(by simp[h.len];omega)=nv:=by subst hl;simp[<-h.len]
   rw[e1,e2];exact kt.row hn
theorem RnB.up{B':Nat}(h:RnB B w es ve vs)(hB:B'<=B):RnB B' w es ve vs:=by
 have up:∀{X:TypeId} {k n:Nat} {v:Value} {xs:List Value},w.ownsRow B X k v n xs->w.ownsRow B' X k v n xs:=fun h=>⟨h.1,h.2.imp id fun⟨g,cap,cu,e1,hb,r⟩=>⟨g,cap,cu,e1,by omega,r⟩⟩
 exact⟨h.len,up h.row,fun j hj=>up (h.nee j hj)⟩
end
def BU(w:World)(r:Rs (List En))(e:Ending)(w':World):Prop :=
 (∀es,r=.ok es->∃ve vs,e=.returned (.tuple #[ve,.int .i64 0,.int .i64 0])/\RnB w.heap.size w' es ve vs)/\(∀c,r=.error c->e=.returned (.tuple #[.slice none 0 0,.int .i64 c.1,.int .i64 (c.2:Nat)]))/\w.grownBy w' none
theorem Zy{w w':World}{es:List En}{ve:Value}{vs:List Value}(h:RnB w.heap.size w' es ve vs)(hg:w.grownBy w' none):BU w (.ok es) (.returned (.tuple #[ve,.int .i64 0,.int .i64 0])) w' :=
 ⟨fun es' e=>(by cases e;exact⟨ve,vs,rfl,h⟩),fun c e=>(by cases e),hg⟩
theorem F6{w w':World}{z:Int}{p:Nat}(hg:w.grownBy w' none):BU w (.error (z,p)) (.returned (.tuple #[.slice none 0 0,.int .i64 z,.int .i64 (p:Nat)])) w' :=
 ⟨fun es' e=>(by cases e),fun c e=>(by cases e;rfl),hg⟩
theorem aiR{w':World}{B N c m:Nat}{ns:List Tn}{own:List Nat}{OV:Value}{xs:List Value}{ks:Nat->Value}(h:DtD w' B 0 ns m own (.slice (some ⟨N,0,none⟩) ns.length c) OV xs ks)(l:List UInt8)(hl:jK l=.ok ns):Dc w' N c ns:=by
 obtain⟨T,own',W,hn⟩:=Jv l ns hl;refine⟨⟨B,0,[],.slice none 0 0,xs,ks,⟨h.row,h.cel,h.kid,h.apart,World.ownsRow_nil _ _ _ _,h.far,h.hP⟩,⟨W.par,W.lt,fun q hq=>(by cases hq),W.len⟩⟩,⟨_,T⟩,by omega,?_,fun i hi=>Yd hl i hi⟩
 rcases h.row.2 with⟨e1,_⟩|⟨g,cap,cu,e1,hb,hgg,hn',_⟩
 ·cases e1
 ·cases e1;exact hn'
theorem aiS:(prog.info? 47).map (fun i=>(i.zero,i.size,i.bytes))=some (some (.agg #[.string ⟨#[]⟩,.string ⟨#[]⟩,.string ⟨#[]⟩,.slice none 0 0]),4,72):=by kernel_rfl
end Go.Proofs.YtnnbgjaphfhibaaGreatDoor
