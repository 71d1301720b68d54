import Derived.Test.YtbcfhgpfgdbjgaaGreatDoorK31
import Derived.Test.YtbcfhgpfgdbjgaaGreatDoorK33
set_option linter.all false
set_option maxRecDepth 100000
set_option maxHeartbeats 0
open Go.Proofs.Tryz
namespace Go.Proofs.YtbcfhgpfgdbjgaaGreatDoor
open Go.RowKit Go.Maps Go.WideMaps Go.Joins
variable{l:List Nat}{ns:List Tn}{k:List UInt8}{N S c i n t:Nat}{w w':World}
def xy(is:ByteArray->Bool)(F:Nat):Prop:=∀(s:ByteArray) (w:World),s.size<2 ^ 60->Calls prog F #[.string s] w fun e w'=>e=.returned (.bool (is s))/\w.grownBy w' none
structure Dc(w:World)(N c:Nat)(ns:List Tn):Prop where
 tre:∃B m own OV xs ks,DtD w B 0 ns m own (.slice (some ⟨N,0,none⟩) ns.length c) OV xs ks/\WF ns own
 tv:∃S,Tv 100000 ns S
 len:ns.length<=1000000
 cap:ns.length<=c
 kid:∀i (hi:i<ns.length),ns[i].ks.length<=1000000
theorem Dc.grow(h:Dc w N c ns)(hg:w.grownBy w' none):Dc w' N c ns:=by
 obtain⟨B,m,own,OV,xs,ks,hD,W⟩:=h.tre;exact⟨⟨B,m,own,OV,xs,ks,hD.gb hg,W⟩,h.tv,h.len,h.cap,h.kid⟩
theorem Dc.node(h:Dc w N c ns)(hi:i<ns.length):∃o m,w.cell? ⟨N,i*6,none⟩=some (.int .i64 ns[i].kd)/\w.cell? ⟨N,i*6+1,none⟩=some (.string ⟨ns[i].ky.toArray⟩)/\w.cell? ⟨N,i*6+2,none⟩=some (.string ⟨ns[i].tx.toArray⟩)/\w.cell? ⟨N,i*6+3,none⟩=some (.int .i64 ns[i].nu)/\w.cell? ⟨N,i*6+4,none⟩=some (.slice o ns[i].ks.length m)/\w.cell? ⟨N,i*6+5,none⟩=some (.int .i64 (ns[i].pl:Nat))/\NuS w (.slice o ns[i].ks.length m) ns[i].ks:=by
 obtain⟨B,m,own,OV,xs,ks,hD,W⟩:=h.tre;obtain⟨h0,h1,h2,h3,h4,h5,-⟩:=hD.node i hi;have hk:=NuS.of (hD.kid i hi);obtain⟨o,c',e,hh⟩:=hk;refine⟨o,c',h0,h1,h2,h3,?_,h5,o,c',rfl,hh⟩;rw[<-e];exact h4
theorem Dc.cKid(h:Dc w N c ns)(t:Nat)(ht:t<ns.length)(k:List UInt8) :
  Calls prog 15 #[.slice (some ⟨N,0,none⟩) ns.length c,.int .i64 (t:Nat),.string ⟨k.toArray⟩] w fun e w'=>e=.returned (.int .i64 (oD ns t k))/\w'=w:=by
 obtain⟨B,m,own,OV,xs,ks,hD,W⟩:=h.tre;exact JV w B 0 ns m own N c OV xs ks t k hD W ht h.len
theorem akK{B m:Nat}{own:List Nat}{OV:Value}{xs:List Value}{ks:Nat->Value}(h:DtD w' B 0 ns m own (.slice (some ⟨N,0,none⟩) ns.length c) OV xs ks)(l:List UInt8)(hl:lJ l=.ok ns):Dc w' N c ns:=by
 obtain⟨T,own',W,hn⟩:=Rl l ns hl;refine⟨⟨B,0,[],.slice none 0 0,xs,ks,⟨h.row,h.cel,h.kid,h.apart,World.ownsRow_nil _ _ _ _,h.far,h.hP⟩,⟨W.par,W.lt,fun q hq=>(by cases hq),W.len⟩⟩,⟨_,T⟩,by omega,?_,fun i hi=>QY hl i hi⟩
 rcases h.row.2 with⟨e1,_⟩|⟨g,cap,cu,e1,hb,hgg,hn',_⟩
 ·cases e1
 ·cases e1;exact hn'
def AO(l:List Nat)(i:Nat):List Nat:=l.takeWhile fun q=>decide (¬q=i)
theorem Sz:∀(l:List Nat) (i:Nat),l.Pairwise (· < ·)->i∈l->AO l i=lo i l
 | [],i,_,h=>by cases h
 | a :: r,i,h,hi=>by
  rw[List.pairwise_cons]at h;unfold AO lo;rw[List.takeWhile_cons,List.filter_cons]
  by_cases e:a=i
  ·rw[decide_eq_false (by simpa using e),decide_eq_false (by omega)];simp only[Bool.false_eq_true,if_false];symm;rw[List.filter_eq_nil_iff];intro b hb;have:=h.1 b hb;simp;omega
  ·have hr:i∈r:=by rcases List.mem_cons.1 hi with h1|h1;exact absurd h1.symm e;exact h1
   have:=h.1 i hr;rw[decide_eq_true (by simpa using e),decide_eq_true (by omega)];simp only[if_true];exact congrArg _ (Sz r i h.2 hr)
def mG(l:List Nat)(n:Nat):Int:=if n∈l then((AO l n).length:Int) else -1
theorem aau:∀(l:List Nat) (n i:Nat) (hi:i<l.length),(∀j (hj:j<l.length),j<i->¬l[j]=n)->l[i]=n->AO l n=l.take i
 | a :: r,n,0,_,_,h=>by
  have:a=n:=h;unfold AO;rw[List.takeWhile_cons,decide_eq_false (by simpa using this)];rfl
 | a :: r,n,i+1,hi,ha,h=>by
  have h0:¬a=n:=ha 0 (by simp) (by omega);unfold AO;rw[List.takeWhile_cons,decide_eq_true (by simpa using h0)];simp only[if_true,List.take_succ_cons];exact congrArg _ (aau r n i (by simpa using hi) (fun j hj hji=>ha (j+1) (by simpa using hj) (by omega)) h)
theorem akL(hi:i<l.length)(ha:∀j (hj:j<l.length),j<i->¬l[j]=n)(h:l[i]=n):mG l n=(i:Int):=by
 unfold mG;rw[if_pos (by rw[<-h];exact List.getElem_mem hi),aau l n i hi ha h,List.length_take,Nat.min_eq_left (by omega)]
theorem akM(h:∀j (hj:j<l.length),¬l[j]=n):mG l n=-1:=by
 unfold mG;rw[if_neg];intro hm;obtain⟨j,hj,e⟩:=List.getElem_of_mem hm;exact h j hj e
theorem aav(w:World)(o:Option Addr)(m M:Nat)(l:List Nat)(n:Nat)(hM:l.length=M)(h:NuS w (.slice o M m) l)(hl:M<=1000000) :
  Calls prog 14 #[.slice o M m,.int .i64 (n:Nat)] w fun e w'=>e=.returned (.int .i64 (mG l n))/\w'=w:=by
 have HC:Hd (∀i (hi:i<l.length),∃g,o=some ⟨g,0,none⟩/\w.cell? ⟨g,i,none⟩=some (.int .i64 (l[i]:Nat))):=fun i hi=>by
  obtain⟨o',c',e,hh⟩:=h;injection e with e _ _
  rw[e];exact hh i hi
 have HM:=ae hM;obtain⟨r,hr⟩:=zN (mG l n);have HR:=ae hr;rw[hr];clear h hM hr;go_enter func14,ntmps14;go_wp2;go_loopw [5] (fun vi wr=>∃i:Nat,vi=.int .i64 (i:Nat)/\i<=M/\(∀j (hj:j<l.length),j<i->¬l[j]=n)/\w=wr) (fun vi _=>M-(intOf vi).toNat)
 case atStart=>exact⟨0,rfl,by omega,fun j hj h=>absurd h (by omega),rfl⟩
 case round=>
  obtain⟨i,rfl,hi,hpre,rfl⟩:=hrel;have HP:=ae hpre;clear hpre
  by_cases hlt:i<M
  ·have hlt':i<l.length:=by rw[HM.o];exact hlt
   obtain⟨g,hg,cg⟩:=HC.o i hlt';obtain⟨q,hq⟩:=zN (l[i]);have HQ:=ae hq;rw[hq]at cg;subst hg;clear hq
   by_cases e:q=n
   ·have hb:((q:Int) == (n:Int))=true:=by rw[e];simp
    have HRR:Hd (r=(i:Int)):=by
     show _=_;rw[<-HR.o,akL hlt' HP.o (HQ.o.trans e)]
    clear e;go_wp2;go_ret;exact⟨dm HRR.o.symm,rfl⟩
   ·have hb:((q:Int) == (n:Int))=false:=by simpa using(show ¬(q:Int)=(n:Int) by omega)
    have HP2:Hd (∀j (hj:j<l.length),j<i+1->¬l[j]=n):=fun j hj hji=>by
     by_cases hj':j<i
     ·exact HP.o j hj hj'
     ·have e':j=i:=by omega
      subst e';rw[HQ.o];exact e
    clear e;go_wp2;refine⟨⟨i+1,by go_num,by omega,HP2.o,by first|trivial|rfl⟩,?_⟩;simp[intOf];omega
  ·have HRR:Hd (r=-1):=by
    show _=_;rw[<-HR.o,akM fun j hj=>HP.o j hj (by rw[HM.o]at hj;omega)]
   go_wp2;go_ret;exact⟨dm HRR.o.symm,rfl⟩
theorem aaw(w:World)(N c:Nat)(ns:List Tn)(h:Dc w N c ns)(i p:Nat)(hp:i∈aA ns p) :
  Calls prog 11 #[.slice (some ⟨N,0,none⟩) ns.length c,.int .i64 (i:Nat)] w fun e w'=>e=.returned (.int .i64 (p:Nat))/\w'=w:=by
 obtain⟨S,T⟩:=h.tv;have HP:Hd (i∈aA ns p/\p<ns.length/\∀q,i∈aA ns q->q=p):=⟨hp,EM hp,fun q hq=>T.uni _ _ _ hq hp⟩;have CI:Hd (∀k (hk:k<ns.length),∃o m,w.cell? ⟨N,k*6+4,none⟩=some (.slice o ns[k].ks.length m)/\Calls prog 14 #[.slice o ns[k].ks.length m,.int .i64 (i:Nat)] w fun e w'=>e=.returned (.int .i64 (mG (aA ns k) i))/\w'=w):=fun k hk=>by
  obtain⟨o,m,-,-,-,-,h4,-,hn⟩:=h.node hk;refine⟨o,m,h4,?_⟩;have e:aA ns k=ns[k].ks:=by unfold aA;rw[List.getElem?_eq_getElem hk]
  rw[e];exact aav w o m _ ns[k].ks i rfl hn (h.kid k hk)
 have hl:=h.len;have hc:=h.cap;obtain⟨L,hL⟩:=zN (ns.length);have HL:=ae hL;rw[hL]at hl hc ⊢;clear h hp hL T;go_enter func11,ntmps11;go_wp2;go_loopw [5] (fun vi wr=>∃k:Nat,vi=.int .i64 (k:Nat)/\k<=L/\(∀j,j<k->¬i∈aA ns j)/\w=wr) (fun vi _=>L-(intOf vi).toNat)
 case atStart=>exact⟨0,rfl,by omega,fun j h=>absurd h (by omega),rfl⟩
 case round=>
  obtain⟨k,rfl,hk,hpre,rfl⟩:=hrel;have HQ:=ae hpre;clear hpre
  by_cases hlt:k<L
  ·obtain⟨o,m,c4,CC⟩:=CI.o k (by rw[HL.o];exact hlt);obtain⟨x,hx⟩:=zN ((ns[k]'(by rw[HL.o];exact hlt)).ks.length);rw[hx]at c4 CC
   by_cases e:i∈aA ns k
   ·have HE:=ae (HP.o.2.2 k e);obtain⟨z,hz⟩:∃z:Nat,(AO (aA ns k) i).length=z:=⟨_,rfl⟩;have CX:Hd (Calls prog 14 #[.slice o x m,.int .i64 (i:Nat)] w fun e w'=>e=.returned (.int .i64 (z:Nat))/\w=w'):=CC.mono fun e' w' hh=>by
     refine⟨?_,hh.2.symm⟩;rw[hh.1];unfold mG;rw[if_pos e,hz]
    have hzz:(0:Int)<=(z:Int):=by omega
    clear e CC hx hz;go_wp2_with (go_at_call 14;refine CX.o.mono ?_;rintro e' w' ⟨rfl,rfl⟩);go_ret;exact⟨dm (show(k:Int)=(p:Int) by rw[HE.o]),rfl⟩
   ·have jB:Hd (∀j,j<k+1->¬i∈aA ns j):=fun j hj=>by
     by_cases hj':j<k
     ·exact HQ.o j hj'
     ·rw[show j=k by omega];exact e
    have CX:Hd (Calls prog 14 #[.slice o x m,.int .i64 (i:Nat)] w fun e w'=>e=.returned (.int .i64 (-1))/\w=w'):=CC.mono fun e' w' hh=>by
     refine⟨?_,hh.2.symm⟩;rw[hh.1];unfold mG;rw[if_neg e]
    clear e CC hx;go_wp2_with (go_at_call 14;refine CX.o.mono ?_;rintro e' w' ⟨rfl,rfl⟩);refine⟨⟨k+1,by go_num,by omega,jB.o,by first|trivial|rfl⟩,?_⟩;simp[intOf];omega
  ·exact absurd HP.o.1 (HQ.o p (by have:=HP.o.2.1;rw[HL.o]at this;omega))
theorem akN{x:Tn}{is:ByteArray->Bool}(h3:x.kd=3):takeD x is=if is (dB x)=true then 0 else 2:=by unfold takeD;rw[if_neg (by simpa using h3)]
theorem akO(CV:xy okV 44)(w:World)(x:Tn)(o:Option Addr)(m c:Nat)(what:Int)(is:ByteArray->Bool)(hw:(what=0/\is=nameB)\/(what=1/\is=okV))(htx:x.tx.length<=100000) :
  Calls prog 28 #[.agg (fC x (.slice o m c)),.int .i64 what] w fun e w'=>e=.returned (.int .i64 (takeD x is))/\w.grownBy w' none:=by
 obtain⟨kd,ky,tx,nu,ks,pl⟩:=x;unfold fC;simp only[]at htx ⊢;have hsz:(⟨tx.toArray⟩:ByteArray).size<=100000:=by
  show tx.toArray.size<=_;rw[List.size_toArray];exact htx
 obtain⟨TX,iQ⟩:∃t:ByteArray,⟨tx.toArray⟩=t:=⟨_,rfl⟩;have SA:=ae iQ;rw[iQ]at hsz ⊢;obtain⟨W,hW⟩:=zN (w.alloc (.cells #[.int .i64 kd,.string ⟨ky.toArray⟩,.string TX,.int .i64 nu,.slice o m c,.int .i64 (pl:Nat)] 48));have HG:=ae (hW ▸ aH (ax w none) _);have hB:W.heap[w.heap.size]?=some (.cells #[.int .i64 kd,.string ⟨ky.toArray⟩,.string TX,.int .i64 nu,.slice o m c,.int .i64 (pl:Nat)] 48 (0,0)):=by rw[<-hW];exact heap_alloc_new _ _
 have c0:W.cell? ⟨w.heap.size,0,none⟩=some (.int .i64 kd):=by rw[aj hB];rfl
 have c2:W.cell? ⟨w.heap.size,2,none⟩=some (.string TX):=by rw[aj hB];rfl
 have CN:Hd (Calls prog 29 #[.string TX] W fun e w'=>e=.returned (.bool (nameB TX))/\Hd (W.grownBy w' none)):=(WL TX W (by omega)).mono fun e w' h=>⟨h.1,h.2 ▸ ax _ none⟩
 have CV:Hd (Calls prog 44 #[.string TX] W fun e w'=>e=.returned (.bool (okV TX))/\Hd (W.grownBy w' none)):=CV TX W (by omega);clear hB hsz
 by_cases h3:kd=3
 ·obtain⟨z,hz⟩:=zN (takeD ⟨kd,ky,tx,nu,ks,pl⟩ is);have HZ:Hd ((is TX=true->z=0)/\(is TX=false->z=2)):=by
   have:=akN (x:=⟨kd,ky,tx,nu,ks,pl⟩) (is:=is) h3;rw[hz,show dB ⟨kd,ky,tx,nu,ks,pl⟩=TX from iQ]at this;exact⟨fun h=>by rw[this,if_pos h],fun h=>by rw[this,if_neg (by rw[h];decide)]⟩
  rw[hz];subst h3;clear hz iQ htx
  rcases hw with⟨rfl,rfl⟩|⟨rfl,rfl⟩
  ·go_enter func28,ntmps28;go_wp2_with (go_at_call 29;refine CN.o.mono ?_);rintro e w2 ⟨rfl,hg2⟩
   cases hb:nameB TX with
   |true=>go_wp2;go_ret;exact⟨dm (HZ.o.1 hb).symm,ak HG.o hg2.o⟩
   |false=>go_wp2;go_ret;exact⟨dm (HZ.o.2 hb).symm,ak HG.o hg2.o⟩
  ·go_enter func28,ntmps28;go_wp2_with (go_at_call 44;refine CV.o.mono ?_);rintro e w2 ⟨rfl,hg2⟩
   cases hb:okV TX with
   |true=>go_wp2;go_ret;exact⟨dm (HZ.o.1 hb).symm,ak HG.o hg2.o⟩
   |false=>go_wp2;go_ret;exact⟨dm (HZ.o.2 hb).symm,ak HG.o hg2.o⟩
 ·have hb:(kd != 3)=true:=by simpa using h3
  have hz:takeD ⟨kd,ky,tx,nu,ks,pl⟩ is=7:=by unfold takeD;rw[if_pos h3]
  rw[hz];clear hz iQ htx hw;go_enter func28,ntmps28;go_wp2;go_ret;exact⟨rfl,HG.o⟩
open Go.RowKit Go.Maps Go.WideMaps Go.Joins
theorem aax{ky:List UInt8}{KY:ByteArray}(h:(⟨ky.toArray⟩:ByteArray)=KY):(ky=k->(KY.toList == k)=true)/\(¬ky=k->(KY.toList == k)=false):=by
 subst h;have e:(⟨ky.toArray⟩:ByteArray).toList=ky:=by rw[ByteArray.toList_eq]
 rw[e];exact⟨fun h=>by rw[h];simp,fun h=>by simpa using h⟩
def RkP(x:Tn)(Q:Nat)(nm ve:ByteArray)(vn:Value)(z:Int)(w:World)(e:Ending)(w':World):Prop :=
 e=.returned (.int .i64 z)/\w.grownBy w' (some Q)/\w'.heap[Q]?=some (.cells #[.string (if x.ky=ig then dB x else nm),.string (if x.ky=iG then dB x else ve),vn] 30 (0,0))
theorem SB(h:w.grownBy w' none)(r:Option Nat):w.grownBy w' r:=⟨h.os,h.tape,h.output,h.size,fun k hk _=>h.block k hk (by simp)⟩
theorem akP(CV:xy okV 44)(w:World)(N c L:Nat)(ns:List Tn)(hL:ns.length=L)(h:Dc w N c ns)(i:Nat)(x:Tn)(hx:ns[i]?=some x)(Q:Nat)(nm ve:ByteArray)(vn:Value)(hQ:w.heap[Q]?=some (.cells #[.string nm,.string ve,vn] 30 (0,0))) :
  Calls prog 12 #[.slice (some ⟨N,0,none⟩) L c,.int .i64 (i:Nat),.pointer (some ⟨Q,0,none⟩)] w (RkP x Q nm ve vn (nI x) w):=by
 obtain⟨hi,hx0⟩:=List.getElem?_eq_some_iff.1 hx;obtain⟨S,V⟩:=h.tv;have htx:=(V.txt _ (List.getElem_mem hi)).2.1;obtain⟨o,m,e0,e1,e2,e3,e4,e5,-⟩:=h.node hi;rw[hx0]at e0 e1 e2 e3 e4 e5 htx;obtain⟨bx,hbx⟩:=zN (w.heap.size);obtain⟨W,hW⟩:=zN (w.alloc (.cells (fC x (.slice o x.ks.length m)) 48));have fH:w.grownBy W none:=hW ▸ aH (ax w none) _;have hB:W.heap[bx]?=some (.cells (fC x (.slice o x.ks.length m)) 48 (0,0)):=by rw[<-hW,<-hbx];exact heap_alloc_new _ _
 have Ee:=(gI fH).blk hQ;have hbq:¬bx=Q:=fun e=>by have:=aG hQ;omega
 have CP:∀w' what is,((what=0/\is=nameB)\/(what=1/\is=okV))->Calls prog 28 #[.agg (fC x (.slice o x.ks.length m)),.int .i64 what] w' fun e w''=>e=.returned (.int .i64 (takeD x is))/\w'.grownBy w'' none:=fun w' what is hw=>akO CV w' x o _ m what is hw htx
 have HP:∀(k:Nat) (hk:k<2) (w':World),(∀(hk:k=0),x.ky=ig)->(k=1->¬x.ky=ig/\x.ky=iG)->(W.setCell ⟨Q,k,none⟩ (.string (dB x))).grownBy w' none->w.grownBy w' (some Q)/\w'.heap[Q]?=some (.cells #[.string (if x.ky=ig then dB x else nm),.string (if x.ky=iG then dB x else ve),vn] 30 (0,0)):=fun k hk w' h0 h1 hg=>by
  refine⟨(SB fH _).trans ((fO W Q k _).trans (SB hg _)),(gI hg).blk ?_⟩;have:=block_setCell (i:=k) Ee (.string (dB x));rw[this]
  match k,hk with
  | 0,_=>rw[if_pos (h0 rfl),if_neg (by rw[h0 rfl];decide)];rfl
  | 1,_=>rw[if_neg (h1 rfl).1,if_pos (h1 rfl).2];rfl
 have H7:Hd (¬x.ky=ig->¬x.ky=iG->w.grownBy W (some Q)/\W.heap[Q]?=some (.cells #[.string (if x.ky=ig then dB x else nm),.string (if x.ky=iG then dB x else ve),vn] 30 (0,0))):=fun h1 h2=>⟨SB fH _,by rw[if_neg h1,if_neg h2];exact Ee⟩
 obtain⟨Z,hZ⟩:=zN (nI x);have HZ:=ae hZ;rw[hZ];have hil:i<L:=by omega
 have hcl:L<=c:=by have:=h.cap;omega
 have hl6:L<=1000000:=by have:=h.len;omega
 have q0:W.cell? ⟨Q,0,none⟩=some (.string nm):=by rw[aj Ee];rfl
 have q1:W.cell? ⟨Q,1,none⟩=some (.string ve):=by rw[aj Ee];rfl
 have qf:=fun k=>Lib.frozen_of_heap Ee k
 have hBc:∀k v,(fC x (.slice o x.ks.length m))[k]?=some v->W.cell? ⟨bx,k,none⟩=some v/\∀j y,(W.setCell ⟨Q,j,none⟩ y).cell? ⟨bx,k,none⟩=some v:=fun k v hk=>by
  have:W.cell? ⟨bx,k,none⟩=some v:=by rw[aj hB];exact hk
  exact⟨this,fun j y=>(fO W Q j y).cell this (by simp;exact hbq)⟩
 have hyk:=fun k=>aax (ky:=x.ky) (k:=k) rfl
 unfold fC at hBc CP hB hW;obtain⟨kd,hkd⟩:=zN x.kd;obtain⟨KY,kS⟩:∃t:ByteArray,⟨x.ky.toArray⟩=t:=⟨_,rfl⟩;obtain⟨TX,iQ⟩:∃t:ByteArray,⟨x.tx.toArray⟩=t:=⟨_,rfl⟩;obtain⟨nu,hnu⟩:=zN x.nu;obtain⟨pl,hpl⟩:=zN x.pl;obtain⟨l,hll⟩:=zN x.ks.length;have SA:Hd (dB x=TX):=iQ;have yL:=ae hkd;rw[hkd,kS,iQ,hnu,hpl,hll]at hBc CP hW;rw[hkd]at e0;rw[kS]at e1 hyk;rw[iQ]at e2;rw[hnu]at e3;rw[hll]at e4;rw[hpl]at e5;rw[show dB x=TX from iQ]at HP;obtain⟨c0,d0⟩:=hBc 0 _ rfl;obtain⟨c1,d1⟩:=hBc 1 _ rfl;obtain⟨c2,d2⟩:=hBc 2 _ rfl;obtain⟨c3,d3⟩:=hBc 3 _ rfl;obtain⟨c4,d4⟩:=hBc 4 _ rfl;obtain⟨c5,d5⟩:=hBc 5 _ rfl;have HW:Hd (w.alloc (.cells #[.int .i64 kd,.string KY,.string TX,.int .i64 nu,.slice o l m,.int .i64 (pl:Nat)] 48)=W/\w.heap.size=bx):=⟨hW,hbx⟩;have AP:=ae HP;have AQ:=ae CP;clear h hx hx0 hQ Ee hB hBc fH hW hbx kS iQ hnu hpl hll hkd htx V CV hZ HP CP hL hi
 have b0:((kd == 0)=true/\x.kd=0)\/((kd == 0)=false/\¬x.kd=0):=by
  rw[yL.o]
  by_cases e:kd=0
  ·exact Or.inl ⟨by simpa using e,e⟩
  ·exact Or.inr ⟨by simpa using e,e⟩
 by_cases g1:x.ky=ig
 ·have hb1:(KY.toList == [110,97,109,101])=true:=(hyk ig).1 g1;have hZ1:takeD x nameB=Z:=by rw[<-HZ.o];unfold nI;rw[if_pos g1]
  have CG:=ae (AQ.o (W.setCell ⟨Q,0,none⟩ (.string TX)) 0 nameB (Or.inl ⟨rfl,rfl⟩));have HF:=ae (fun w'=>AP.o 0 (by decide) w' (fun _=>g1) (fun e=>by cases e));rw[hZ1]at CG;have r0:=d0 0 (.string TX);have r1:=d1 0 (.string TX);have r2:=d2 0 (.string TX);have r3:=d3 0 (.string TX);have r4:=d4 0 (.string TX);have r5:=d5 0 (.string TX);clear g1 hyk hZ1 H7 b0 AP AQ d0 d1 d2 d3 d4 d5;go_enter func12,ntmps12;go_upto_region 2 with fail
  try rw[HW.o.1]
  try rw[HW.o.2]
  go_wp2_with (go_at_call 28;refine CG.o.mono ?_);rintro e w2 ⟨rfl,h2⟩;have HH:=ae (HF.o w2 h2);clear h2 HF CG;go_wp2;go_ret;exact⟨rfl,by rw[SA.o];exact HH.o⟩
 ·have hb1:(KY.toList == [110,97,109,101])=false:=(hyk ig).2 g1
  by_cases g2:x.ky=iG
  ·have hb2:(KY.toList == [118,101,114,115,105,111,110])=true:=(hyk iG).1 g2;have hZ1:takeD x okV=Z:=by rw[<-HZ.o];unfold nI;rw[if_neg g1,if_pos g2]
   have CG:=ae (AQ.o (W.setCell ⟨Q,1,none⟩ (.string TX)) 1 okV (Or.inr ⟨rfl,rfl⟩));have HF:=ae (fun w'=>AP.o 1 (by decide) w' (fun e=>by cases e) (fun _=>⟨g1,g2⟩));rw[hZ1]at CG;have r0:=d0 1 (.string TX);have r1:=d1 1 (.string TX);have r2:=d2 1 (.string TX);have r3:=d3 1 (.string TX);have r4:=d4 1 (.string TX);have r5:=d5 1 (.string TX);clear g1 g2 hyk hZ1 H7 b0 AP AQ d0 d1 d2 d3 d4 d5;go_enter func12,ntmps12;go_upto_region 2 with fail
   try rw[HW.o.1]
   try rw[HW.o.2]
   go_wp2_with (go_at_call 28;refine CG.o.mono ?_);rintro e w2 ⟨rfl,h2⟩;have HH:=ae (HF.o w2 h2);clear h2 HF CG;go_wp2;go_ret;exact⟨rfl,by rw[SA.o];exact HH.o⟩
  ·have hb2:(KY.toList == [118,101,114,115,105,111,110])=false:=(hyk iG).2 g2;have HH:=ae (H7.o g1 g2);have hz:Z=if x.ky=jE/\x.kd=0 then 0 else 7:=by rw[<-HZ.o];unfold nI;rw[if_neg g1,if_neg g2]
   by_cases g3:x.ky=jE
   ·have hb3:(KY.toList == [110,101,101,100,115])=true:=(hyk jE).1 g3
    rcases b0 with⟨b0,g4⟩|⟨b0,g4⟩
    ·rw[if_pos ⟨g3,g4⟩]at hz;subst hz;clear g1 g2 g3 g4 hyk H7 AP AQ d0 d1 d2 d3 d4 d5;go_enter func12,ntmps12;go_upto_region 2 with fail
     try rw[HW.o.1]
     try rw[HW.o.2]
     go_wp2;go_ret;exact⟨rfl,HH.o⟩
    ·rw[if_neg (fun e=>g4 e.2)]at hz;subst hz;clear g1 g2 g3 g4 hyk H7 AP AQ d0 d1 d2 d3 d4 d5;go_enter func12,ntmps12;go_upto_region 2 with fail
     try rw[HW.o.1]
     try rw[HW.o.2]
     go_wp2;go_ret;exact⟨rfl,HH.o⟩
   ·have hb3:(KY.toList == [110,101,101,100,115])=false:=(hyk jE).2 g3;rw[if_neg (fun e=>g3 e.1)]at hz;subst hz;clear g1 g2 g3 hyk H7 AP AQ d0 d1 d2 d3 d4 d5 b0;go_enter func12,ntmps12;go_upto_region 2 with fail
    try rw[HW.o.1]
    try rw[HW.o.2]
    go_wp2;go_ret;exact⟨rfl,HH.o⟩
theorem akQ(CR:xy okR 30)(w:World)(x:Tn)(o:Option Addr)(m c k:Nat)(hk:k<=1000000)(htx:x.ky.length<=100000/\x.tx.length<=100000) :
  Calls prog 13 #[.agg (fC x (.slice o m c)),.int .i64 (k:Nat)] w fun e w'=>e=.returned (.int .i64 (oG k x))/\w.grownBy w' none:=by
 have hs1:(jg x).size<=100000:=by show x.ky.toArray.size<=_;rw[List.size_toArray];exact htx.1
 have hs2:(dB x).size<=100000:=by show x.tx.toArray.size<=_;rw[List.size_toArray];exact htx.2
 obtain⟨Z,hZ⟩:=zN (oG k x);obtain⟨a,ha⟩:=zN (nameB (jg x));obtain⟨b,hb⟩:=zN (okR (dB x));have HZ:Hd ((¬x.kd=3->Z=7)/\(x.kd=3->(a=false\/b=false->Z=2)/\(a=true->b=true->(20<=k->Z=4)/\(¬20<=k->Z=0)))):=by
  subst hZ ha hb;refine⟨fun h=>by unfold oG;rw[if_pos h],fun h=>?_⟩;have t1:oG k x=if nameB (jg x)=true/\okR (dB x)=true then(if 20<=k then 4 else 0) else 2:=by unfold oG;rw[if_neg (by simpa using h)]
  rw[t1];refine⟨fun g=>?_,fun g1 g2=>⟨fun g=>?_,fun g=>?_⟩⟩
  ·rw[if_neg];rintro⟨g1,g2⟩
   rcases g with g|g
   ·rw[g]at g1;cases g1
   ·rw[g]at g2;cases g2
  ·rw[if_pos ⟨g1,g2⟩,if_pos g]
  ·rw[if_pos ⟨g1,g2⟩,if_neg g]
 have CN:Hd (∀w',Calls prog 29 #[.string (jg x)] w' fun e w''=>e=.returned (.bool a)/\w'=w''):=fun w'=>(WL _ w' (by omega)).mono fun e w'' hh=>⟨by rw[<-ha];exact hh.1,hh.2.symm⟩
 have SC:Hd (∀w',Calls prog 30 #[.string (dB x)] w' fun e w''=>e=.returned (.bool b)/\Hd (w'.grownBy w'' none)):=fun w'=>(CR _ w' (by omega)).mono fun e w'' hh=>⟨by rw[<-hb];exact hh.1,hh.2⟩
 rw[hZ];obtain⟨KY,kS⟩:∃t:ByteArray,jg x=t:=⟨_,rfl⟩;obtain⟨TX,iQ⟩:∃t:ByteArray,dB x=t:=⟨_,rfl⟩;unfold fC;rw[show(⟨x.ky.toArray⟩:ByteArray)=KY from kS,show(⟨x.tx.toArray⟩:ByteArray)=TX from iQ];rw[kS]at CN;rw[iQ]at SC;obtain⟨kd,hkd⟩:=zN x.kd;rw[hkd]at HZ ⊢;obtain⟨W,hW⟩:=zN (w.alloc (.cells #[.int .i64 kd,.string KY,.string TX,.int .i64 x.nu,.slice o m c,.int .i64 (x.pl:Nat)] 48));have HG:=ae (hW ▸ aH (ax w none) _);have hB:W.heap[w.heap.size]?=some (.cells #[.int .i64 kd,.string KY,.string TX,.int .i64 x.nu,.slice o m c,.int .i64 (x.pl:Nat)] 48 (0,0)):=by rw[<-hW];exact heap_alloc_new _ _
 have c0:W.cell? ⟨w.heap.size,0,none⟩=some (.int .i64 kd):=by rw[aj hB];rfl
 have c1:W.cell? ⟨w.heap.size,1,none⟩=some (.string KY):=by rw[aj hB];rfl
 have c2:W.cell? ⟨w.heap.size,2,none⟩=some (.string TX):=by rw[aj hB];rfl
 clear hB hs1 hs2 htx CR hZ ha hb kS iQ hkd
 by_cases h3:kd=3
 ·have H3:=ae (HZ.o.2 h3);subst h3;clear HZ;go_enter func13,ntmps13;go_wp2_with (first|(go_at_call 29;refine(CN.o _).mono ?_;rintro e w' ⟨rfl,rfl⟩)|(go_at_call 30;refine(SC.o _).mono ?_));rintro e w2 ⟨rfl,h2⟩;have HG2:=ae (ak HG.o h2.o);clear h2 CN SC
  cases a with
  |false=>
   have HH:Hd (Z=2):=H3.o.1 (Or.inl rfl);go_wp2;go_ret;exact⟨dm HH.o.symm,HG2.o⟩
  |true=>
   cases b with
   |false=>
    have HH:Hd (Z=2):=H3.o.1 (Or.inr rfl);go_wp2;go_ret;exact⟨dm HH.o.symm,HG2.o⟩
   |true=>
    by_cases h20:20<=k
    ·have HH:Hd (Z=4):=(H3.o.2 rfl rfl).1 h20;have akR:(20:Int)<=(k:Int):=by omega
     clear H3 h20;go_wp2;go_ret;exact⟨dm HH.o.symm,HG2.o⟩
    ·have HH:Hd (Z=0):=(H3.o.2 rfl rfl).2 h20;have akR:¬(20:Int)<=(k:Int):=by omega
     clear H3 h20;go_wp2;go_ret;exact⟨dm HH.o.symm,HG2.o⟩
 ·have hb:(kd != 3)=true:=by simpa using h3
  have HH:=ae (HZ.o.1 h3);go_enter func13,ntmps13;go_wp2;go_ret;exact⟨dm HH.o.symm,HG.o⟩
open Go.RowKit Go.Maps Go.WideMaps Go.Joins
theorem akS:(prog.info? 51).map (fun i=>(i.zero,i.size,i.bytes))=some (some (.agg #[.string ⟨#[]⟩,.string ⟨#[]⟩]),2,32):=by kernel_rfl
structure Di(w2:World)(Q:Nat)(m:Mn)(w:World)(vn:Value):Prop where
 gb:w2.grownBy w none
 man:w.heap[Q]?=some (.cells #[.string m.nm,.string m.ve,vn] 30 (0,0))
 row:w.ownsRow w2.heap.size 51 2 vn m.nd.length (m.nd.flatMap kF)
 bQ:w2.heap.size<=Q
section
variable {w2 w w':World} {Q:Nat} {m:Mn} {vn:Value}
theorem Di.grow(h:Di w2 Q m w vn)(hg:w.grownBy w' none):Di w2 Q m w' vn:=⟨ak h.gb hg,(gI hg).blk h.man,(gI hg).row h.row,h.bQ⟩
theorem Di.root{x:Tn}{z:Int}{e:Ending}(V:Tv n ns S)(h:Di w2 Q (mQ ns i) w vn)(h0:i∈aA ns 0)(hx:ns[i]?=some x)(hr:RkP x Q (mQ ns i).nm (mQ ns i).ve vn z w e w'):Di w2 Q (mQ ns (i+1)) w' vn:=by
 obtain⟨-,hg,hb⟩:=hr;have hm:mQ ns (i+1)=⟨if x.ky=ig then dB x else(mQ ns i).nm,if x.ky=iG then dB x else(mQ ns i).ve,(mQ ns i).nd⟩:=by
  by_cases h1:x.ky=ig
  ·rw[Z5 V h0 hx h1,if_pos h1,if_neg (by rw[h1];decide)]
  ·by_cases h2:x.ky=iG
   ·rw[Z7 V h0 hx h2,if_neg h1,if_pos h2]
   ·rw[G6 V hx (fun e=>yU V e h0) fun _=>⟨h1,h2⟩,if_neg h1,if_neg h2]
 rw[hm];exact⟨qC h.gb hg h.bQ,hb,(aai hg h.man (by decide)).row h.row,h.bQ⟩
theorem Di.push(h:Di w2 Q m w vn){w3:World}{v':Value}{x:Nd}{o:Obj}{k:Nat}(hk:m.nd.length=k)(hown:w3.ownsRow w2.heap.size 51 2 v' (k+1) (m.nd.flatMap kF++[.string x.n,.string x.r]))(hgrow:(w.drew.alloc o).grownBy w3 vn.ownBlock):Di w2 Q ⟨m.nm,m.ve,m.nd++[x]⟩ (w3.setCell ⟨Q,2,none⟩ v') v':=by
 have hd:=aak w o;have hr:=(gI hd).row h.row;have uK:=((gI hd).two (aaj hr hgrow (by decide))).blk h.man;have hg3:w2.grownBy w3 none:=by
  have h3:=ak h.gb hd
  cases hb:vn.ownBlock with
  |none=>rw[hb]at hgrow;exact ak h3 hgrow
  |some b=>rw[hb]at hgrow;exact qC h3 hgrow (dO h.row hb).1
 refine⟨qC hg3 (fO w3 _ 2 v') h.bQ,block_setCell (i:=2) uK v',?_,h.bQ⟩;have:=(oH (o:=2) v' uK (by decide)).row hown;simp only[List.length_append,List.length_cons,List.length_nil,List.flatMap_append,List.flatMap_cons,List.flatMap_nil,List.append_nil,hk];exact this
end
theorem aay(h:¬(aK ns t k).isSome=true):oD ns t k=-1:=by
 unfold oD
 cases hk:aK ns t k with
 |none=>rfl
 |some y=>rw[hk]at h;exact absurd rfl h
theorem aaz(h:(aK ns t k).isSome=true):∃y:Nat,oD ns t k=(y:Int):=by
 unfold oD
 cases hk:aK ns t k with
 |none=>rw[hk]at h;cases h
 |some y=>exact⟨y,rfl⟩
theorem akT(V:Tv n ns S){p:Nat}{x:Tn}(hp:i∈aA ns p)(hx:ns[i]?=some x):(p=0/\mN ns i x=nI x)\/(¬p=0/\∃pp,p∈aA ns pp/\(((ja ns p=jE/\pp=0/\ay ns p=0)/\i∈nK ns/\mN ns i x=oG (mG (aA ns p) i).toNat x/\0<=mG (aA ns p) i/\mG (aA ns p) i<=ns.length)\/(¬(ja ns p=jE/\pp=0/\ay ns p=0)/\mN ns i x=0/\mQ ns (i+1)=mQ ns i))):=by
 by_cases h0:p=0
 ·subst h0;exact Or.inl ⟨rfl,by unfold mN;rw[if_pos hp]⟩
 ·refine Or.inr ⟨h0,?_⟩;have hn0:¬i∈aA ns 0:=fun h=>h0 (V.uni _ _ _ hp h)
  obtain⟨pp,hpp⟩:=V.par p (by omega) (EM hp);refine⟨pp,hpp,?_⟩
  by_cases hc:ja ns p=jE/\pp=0/\ay ns p=0
  ·obtain⟨h1,h2,h3⟩:=hc;subst h2;have hk:=Ll V V.root.2 hpp h1;have yD:nK ns=aA ns p:=by unfold nK;rw[hk];simp only[];rw[if_pos h3]
   have hi:i∈nK ns:=by rw[yD];exact hp
   have he:mG (aA ns p) i=((lo i (nK ns)).length:Int):=by unfold mG;rw[if_pos hp,Sz _ _ (V.inc p) hp,yD]
   refine Or.inl ⟨⟨h1,rfl,h3⟩,hi,?_,by rw[he];omega,?_⟩
   ·rw[he,Int.toNat_natCast];unfold mN;rw[if_neg hn0,if_pos hi]
   ·rw[he];have h4:(lo i (nK ns)).length<=(nK ns).length:=by unfold lo;exact List.length_filter_le _ _
    have h5:(nK ns).length<=ns.length:=by
     have hs:(nK ns).Pairwise (· < ·):=ZZ V;have hb:∀q∈nK ns,q<ns.length:=fun q hq=>by rw[yD]at hq;exact V.lt _ _ hq
     have key:∀(l:List Nat) (b:Nat),l.Pairwise (· < ·)->(∀q∈l,b<=q/\q<ns.length)->l.length+b<=ns.length\/l=[]:=fun l=>by
      induction l with
      |nil=>intro b _ _;exact Or.inr rfl
      |cons a r ih=>
       intro b h1 h2;rw[List.pairwise_cons]at h1;have ha:=h2 a (by simp)
       rcases ih (a+1) h1.2 (fun q hq=>⟨h1.1 q hq,(h2 q (by simp[hq])).2⟩) with h3|h3
       ·exact Or.inl (by rw[List.length_cons];omega)
       ·subst h3;exact Or.inl (by simp;omega)
     rcases key (nK ns) 0 hs (fun q hq=>⟨Nat.zero_le _,hb q hq⟩) with h6|h6
     ·omega
     ·rw[h6];exact Nat.zero_le _
    omega
  ·have hi:¬i∈nK ns:=fun h=>by
    obtain⟨y,g1,g2,g3,g4,-⟩:=Ap h;have:=V.uni _ _ _ g3 hp;subst this;exact hc ⟨(xn g1).2,(V.uni _ _ _ g4 hpp).symm,g2⟩
   exact Or.inr ⟨hc,by unfold mN;rw[if_neg hn0,if_neg hi],G6 V hx hi fun h=>absurd h hn0⟩
open Go.RowKit Go.Maps Go.WideMaps Go.Joins
theorem akU{a:Nat->Addr}{v0 v1 v2 v3 v4 v5 v6:Value}(hg:w.grownBy w' none)(h:w.cell? (a 0)=some v0/\w.cell? (a 1)=some v1/\w.cell? (a 2)=some v2/\w.cell? (a 3)=some v3/\w.cell? (a 4)=some v4/\w.cell? (a 5)=some v5/\w.cell? (a 6)=some v6):w'.cell? (a 0)=some v0/\w'.cell? (a 1)=some v1/\w'.cell? (a 2)=some v2/\w'.cell? (a 3)=some v3/\w'.cell? (a 4)=some v4/\w'.cell? (a 5)=some v5/\w'.cell? (a 6)=some v6 :=
 ⟨hg.cell h.1 (by simp),hg.cell h.2.1 (by simp),hg.cell h.2.2.1 (by simp),hg.cell h.2.2.2.1 (by simp),hg.cell h.2.2.2.2.1 (by simp),hg.cell h.2.2.2.2.2.1 (by simp),hg.cell h.2.2.2.2.2.2 (by simp)⟩
def SE(w2:World)(Q:Nat)(ns:List Tn)(L:Nat)(C0:Rs Unit)(v9 v10 v11:Value)(w:World):Prop:=∃(i:Nat) (vn:Value),v11=.int .i64 (i:Nat)/\1<=i/\i<=L/\Di w2 Q (mQ ns i) w vn/\((v9=.int .i64 (-1)/\v10=.int .i64 0/\mC ns (L-i)=C0)\/(∃(j:Nat) (z:Int) (hj:j<ns.length),v9=.int .i64 (j:Nat)/\v10=.int .i64 z/\C0=.error (z,ns[j].pl)))
theorem akV(CV:xy okV 44)(CR:xy okR 30)(s:ByteArray)(w:World)(hw0:0<w.heap.size)(hmx:s.size<2 ^ 62) :
  Calls prog 5 #[.string s] w (Hr 51 w (tH s.data.toList)):=by
 obtain⟨A,hA⟩:=zN (w.heap.size);obtain⟨W,hW⟩:=zN (w.alloc (.cells #[.string ⟨#[]⟩,.string ⟨#[]⟩,.slice none 0 0] 30));have fH:w.grownBy W none:=hW ▸ aH (ax w none) _;have hb0:W.heap[A]?=some (.cells #[.string ⟨#[]⟩,.string ⟨#[]⟩,.slice none 0 0] 30 (0,0)):=by rw[<-hW,<-hA];exact heap_alloc_new _ _
 have C0:=ai5 akh s W (Nat.lt_of_lt_of_le hw0 fH.size) hmx;obtain⟨R,hR⟩:=zN (tH s.data.toList);rw[hR];unfold tH at hR;have HW:Hd (w.alloc (.cells #[.string ⟨#[]⟩,.string ⟨#[]⟩,.slice none 0 0] 30)=W/\w.heap.size=A):=⟨hW,hA⟩;have bl:Hd (∀w',W.grownBy w' none->w.grownBy w' none/\w'.heap[A]?=some (.cells #[.string ⟨#[]⟩,.string ⟨#[]⟩,.slice none 0 0] 30 (0,0))/\w'.cell? ⟨A,0,none⟩=some (.string ⟨#[]⟩)/\w'.cell? ⟨A,1,none⟩=some (.string ⟨#[]⟩)/\w'.cell? ⟨A,2,none⟩=some (.slice none 0 0)/\∀k,w'.frozen? ⟨A,k,none⟩=false):=fun w' hg=>by
  have h0:=(gI hg).blk hb0;exact⟨ak fH hg,h0,by rw[aj h0];rfl,by rw[aj h0];rfl,by rw[aj h0];rfl,fun k=>Lib.frozen_of_heap h0 k⟩
 have HA:Hd (w.heap.size<=A/\W.heap.size=A+1):=⟨Nat.le_of_eq hA,by rw[<-hW,World.size_alloc,hA]⟩;clear hb0 fH hW hA hw0
 cases hns:lJ s.data.toList with
 |error c0=>
  obtain⟨z,p⟩:=c0;have hz:¬z=0:=by have:=Q4 _ _ _ hns;omega
  have HY:Hd (R=.error (z,p)):=by show _=_;rw[<-hR,hns];rfl
  have hzb:(z != 0)=true:=by simpa using hz
  have CP:Hd (Calls prog 10 #[.string s] W fun e w2=>e=.returned (.tuple #[.slice none 0 0,.int .i64 z,.int .i64 (p:Nat)])/\Hd (W.grownBy w2 none)):=C0.mono fun e w2 hh=>⟨hh.2.1 z p hns,hh.2.2⟩
  clear hns C0 hR hz CV CR;go_enter func5,ntmps5;go_upto_region 1 with fail
  try rw[HW.o.1]
  try rw[HW.o.2]
  go_wp2_with (first|(go_at_call 10;refine CP.o.mono ?_));rintro e w2 ⟨rfl,hP⟩;obtain⟨hg2,h0,a0,a1,a2,af⟩:=bl.o _ hP.o;have H0:=ae h0;have HG2:=ae hg2;clear h0 hP hg2;go_wp2;exact bodyPost_ret (jS (p:=2) (u:=3) (r:=4) rfl _ _ A _ _ (0,0) _ rfl (pz H0.o) underlying30 rfl (by kernel_rfl)) rfl (AA HY.o (rG HG2.o HA.o.1 _ _ _))
 |ok ns=>
  have uI:Hd (qw ns=R):=by show _=_;rw[<-hR,hns];rfl
  obtain⟨L,hL⟩:=zN ns.length;have CP:Hd (Calls prog 10 #[.string s] W fun e w2=>∃N c,e=.returned (.tuple #[.slice (some ⟨N,0,none⟩) L c,.int .i64 0,.int .i64 0])/\Hd (W.grownBy w2 none/\Dc w2 N c ns)):=C0.mono fun e w2 hh=>by
   obtain⟨N,c,OV,xs,ks,own,m,he,hD⟩:=hh.1 ns hns;have hd:=akK hD _ hns;rw[hL]at he;exact⟨N,c,he,hh.2.2,hd⟩
  have HC:Hd (xy okV 44/\xy okR 30):=⟨CV,CR⟩;have HL:=ae hL;clear hns C0 hR CV CR hL;go_enter func5,ntmps5;go_upto_region 1 with fail
  try rw[HW.o.1]
  try rw[HW.o.2]
  go_wp2_with (go_at_call 10;refine CP.o.mono ?_);rintro e w2 ⟨N,c,rfl,hP⟩;have HD:=ae hP.o.2;have SG:=ae hP.o.1;have hl:L<=1000000:=by have:=HD.o.len;have:=HL.o;omega
  have hcap:L<=c:=by have:=HD.o.cap;have:=HL.o;omega
  obtain⟨S,V⟩:=HD.o.tv;have HV:=ae V;have hpos:0<L:=by have:=V.root.1;have:=HL.o;omega
  obtain⟨C0,hC0⟩:=zN (mC ns (L-1));have HC0:=ae hC0;have L6:Hd (R=ZX ns C0):=by
   show _=_;rw[<-uI.o,<-hC0,<-HL.o,<-aiS V];rfl
  obtain⟨Q,hQ⟩:=zN (w2.heap.size);obtain⟨U,hU⟩:=zN (w2.alloc (.cells #[.string ⟨#[]⟩,.string ⟨#[]⟩,.slice none 0 0] 30));have rF:Hd (Di w2 Q (mQ ns 1) U (.slice none 0 0)):=by
   have:mQ ns 1=⟨⟨#[]⟩,⟨#[]⟩,[]⟩:=by
    rw[<-Rq (ns:=ns)];refine G6 V (List.getElem?_eq_getElem V.root.1) (fun h=>?_) fun h=>absurd (V.gt _ _ h) (by omega)
    obtain⟨y,-,-,h1,-⟩:=Ap h;exact absurd (V.gt _ _ h1) (by omega)
   rw[this];exact⟨hU ▸ aH (ax w2 none) _,by rw[<-hU,<-hQ];exact heap_alloc_new _ _,World.ownsRow_nil _ _ _ _,Nat.le_of_eq hQ⟩
  have HU:Hd (w2.alloc (.cells #[.string ⟨#[]⟩,.string ⟨#[]⟩,.slice none 0 0] 30)=U/\w2.heap.size=Q):=⟨hU,hQ⟩;clear CP hP uI hC0 V hU hQ;go_upto_region 5 with fail
  try rw[HU.o.1]
  try rw[HU.o.2]
  go_wp2;go_loopw [9,10,11] (fun v9 v10 v11 wr=>SE w2 Q ns L C0 v9 v10 v11 wr) (fun _ _ v11 _=>L-(intOf v11).toNat)
  case atStart=>exact⟨1,_,rfl,Nat.le_refl _,by omega,rF.o,Or.inl ⟨rfl,rfl,HC0.o⟩⟩
  case round=>
   obtain⟨i,vn,rfl,hi1,hi,hdi,hst⟩:=hrel;have jW:=ae hdi;clear rF HC0 hdi
   rcases hst with⟨rfl,rfl,hmc⟩|⟨j,z,hj,rfl,rfl,hmc⟩
   ·have vJ:=ae hmc;clear hmc
    by_cases hlt:i<L
    ·have hin:i<ns.length:=by rw[HL.o];exact hlt
     obtain⟨x,hx⟩:∃x,ns[i]?=some x:=⟨_,List.getElem?_eq_getElem hin⟩;obtain⟨hin',hx0⟩:=List.getElem?_eq_some_iff.1 hx;obtain⟨p,hp⟩:=HV.o.par i (by omega) hin;have hpc:=akT HV.o hp hx;have hDr:=HD.o.grow jW.o.gb;have hpl:p<ns.length:=EM hp;have Ib:Hd (Calls prog 11 #[.slice (some ⟨N,0,none⟩) L c,.int .i64 (i:Nat)] wr fun e w'=>e=.returned (.int .i64 (p:Nat))/\wr=w'):=by
      have:=aaw wr N c ns hDr i p hp;rw[HL.o]at this;exact this.mono fun e w' hh=>⟨hh.1,hh.2.symm⟩
     have hms:=Lm hin;rw[hx0,HL.o,vJ.o]at hms;obtain⟨z,hz⟩:=zN (mN ns i x);rw[hz]at hms hpc;have sO:=ae hms;have HX:Hd (ns[i]?=some x/\i<ns.length/\p<ns.length/\∀h:i<ns.length,ns[i]=x):=⟨hx,hin,hpl,fun _=>hx0⟩;have mO:Hd (∀w' vn',Di w2 Q (mQ ns (i+1)) w' vn'->(z=0->SE w2 Q ns L C0 (.int .i64 (-1)) (.int .i64 0) (.int .i64 ((i:Int)+1)) w')/\(¬z=0->SE w2 Q ns L C0 (.int .i64 (i:Nat)) (.int .i64 z) (.int .i64 ((i:Int)+1)) w')):=fun w' vn' hd=>by
      refine⟨fun hz0=>⟨i+1,vn',by simp,by omega,by omega,hd,Or.inl ⟨rfl,rfl,?_⟩⟩,fun hz0=>⟨i+1,vn',by simp,by omega,by omega,hd,Or.inr ⟨i,z,HX.o.2.1,rfl,rfl,?_⟩⟩⟩
      ·rw[sO.o,if_pos hz0]
      ·have:=sO.o;rw[if_neg hz0]at this;rw[this,HX.o.2.2.2]
     clear hx hx0 hin hin' hms hpl;have hcp:=fun(q:Nat) (hq:q<ns.length)=>hDr.node hq
     rcases hpc with⟨rfl,qX⟩|⟨hp0,pp,hpp,hcs⟩
     ·have CRK:Hd (Calls prog 12 #[.slice (some ⟨N,0,none⟩) L c,.int .i64 (i:Nat),.pointer (some ⟨Q,0,none⟩)] wr fun e w'=>e=.returned (.int .i64 z)/\Hd (Di w2 Q (mQ ns (i+1)) w' vn)):=(akP HC.o.1 wr N c L ns HL.o hDr i x HX.o.1 Q _ _ vn jW.o.man).mono fun e w' hh=>⟨by rw[qX];exact hh.1,jW.o.root HV.o hp HX.o.1 hh⟩
      clear hcp hDr qX hp;go_wp2_with (first|(go_at_call 11;refine Ib.o.mono ?_;rintro e w' ⟨rfl,rfl⟩)|(go_at_call 12;refine CRK.o.mono ?_));rintro e w3 ⟨rfl,h3⟩;clear Ib CRK jW vJ sO;have HE:=ae (mO.o w3 _ h3.o);clear mO
      by_cases hz0:z=0
      ·have oh:=ae (HE.o.1 hz0);subst hz0;clear HE;go_wp2;exact⟨oh.o,by simp[intOf];omega⟩
      ·have oh:=ae (HE.o.2 hz0);have hzb:(z != 0)=true:=by simpa using hz0
       clear HE;go_wp2;exact⟨oh.o,by simp[intOf];omega⟩
     ·obtain⟨op,mp,f0,f1,f2,f3,f4,f5,fN⟩:=hcp p HX.o.2.2.1;obtain⟨KP,L8⟩:∃t:ByteArray,⟨(ns[p]'HX.o.2.2.1).ky.toArray⟩=t:=⟨_,rfl⟩;obtain⟨kp,hkp⟩:=zN ((ns[p]'HX.o.2.2.1).kd);obtain⟨yp,hyp⟩:=zN ((ns[p]'HX.o.2.2.1).ky);obtain⟨hky,hkd,hks,-⟩:=tJ (List.getElem?_eq_getElem HX.o.2.2.1);rw[hyp]at hky;rw[hkp]at hkd;have hyk:=aax (k:=jE) L8;rw[hyp]at hyk;rw[hky,hkd]at hcs;rw[L8]at f1;rw[hkp]at f0;have SH:Hd (Calls prog 11 #[.slice (some ⟨N,0,none⟩) L c,.int .i64 (p:Nat)] wr fun e w'=>e=.returned (.int .i64 (pp:Nat))/\wr=w'):=by
       have:=aaw wr N c ns hDr p pp hpp;rw[HL.o]at this;exact this.mono fun e w' hh=>⟨hh.1,hh.2.symm⟩
      have hpb:((p:Int) == 0)=false:=by simpa using(show ¬(p:Int)=0 by omega)
      have hpL:p<L:=by rw[<-HL.o];exact HX.o.2.2.1
      rcases hcs with⟨⟨q1,q2,q3⟩,hnk,qX,hx0,hxl⟩|⟨hno,qX,hmq⟩
      ·have r1:(KP.toList == [110,101,101,100,115])=true:=hyk.1 q1;have r2:((pp:Int) == 0)=true:=by rw[q2];rfl
       have r3:(kp == 0)=true:=by rw[q3];rfl
       obtain⟨o,m,e0,e1,e2,e3,e4,e5,-⟩:=hcp i HX.o.2.1;have htx:=HV.o.txt _ (List.getElem_mem HX.o.2.1);rw[HX.o.2.2.2 HX.o.2.1]at e0 e1 e2 e3 e4 e5 htx;obtain⟨k,hk⟩:∃k:Nat,(mG (aA ns p) i).toNat=k:=⟨_,rfl⟩;have hki:mG (aA ns p) i=(k:Int):=by omega
       have hk6:k<=1000000:=by have:=HL.o;omega
       rw[hk]at qX;obtain⟨lp,hlp⟩:=zN ((ns[p]'HX.o.2.2.1).ks.length);have nH:Hd (wr.grownBy wr.drew none):=az (ax wr none) 1;have CI:Hd (Calls prog 14 #[.slice op lp mp,.int .i64 (i:Nat)] wr.drew fun e w'=>e=.returned (.int .i64 (k:Nat))/\wr.drew=w'):=by
        have:=aav wr.drew op mp lp (ns[p]'HX.o.2.2.1).ks i hlp (hlp ▸ fN.grow nH.o) (by rw[<-hlp];exact HD.o.kid p HX.o.2.2.1);rw[<-hks,hki]at this;exact this.mono fun e w' hh=>⟨hh.1,hh.2.symm⟩
       have xA:Hd (Calls prog 13 #[.agg (fC x (.slice o x.ks.length m)),.int .i64 (k:Nat)] wr.drew fun e w'=>e=.returned (.int .i64 z)/\Hd (wr.drew.grownBy w' none)):=by
        rw[qX];exact akQ HC.o.2 wr.drew x o _ m k hk6 ⟨htx.1,htx.2.1⟩
       have SK:=ae (Rn HV.o hnk HX.o.1);obtain⟨o2,c2,rfl⟩:=nV jW.o.row;obtain⟨ml,hml⟩:=zN ((mQ ns i).nd.length);rw[hml]at jW;have SN:=ae hml;have alc:ml<=1000000:=by
        have h1:(mQ ns i).nd.length=(lo i (nK ns)).length:=by unfold mQ;simp
        have h2:=hki;obtain⟨y,-,-,g3,-,g5⟩:=Ap hnk;have:=HV.o.uni _ _ _ g3 hp;subst this;unfold mG at h2;rw[if_pos hp,Sz _ _ (HV.o.inc y) hp,<-g5]at h2;omega
       unfold fC at xA;rw[hlp]at f4;obtain⟨KY,kS⟩:∃t:ByteArray,jg x=t:=⟨_,rfl⟩;obtain⟨TX,iQ⟩:∃t:ByteArray,dB x=t:=⟨_,rfl⟩;rw[kS,iQ]at SK;rw[show(⟨x.ky.toArray⟩:ByteArray)=KY from kS]at xA e1;rw[show(⟨x.tx.toArray⟩:ByteArray)=TX from iQ]at xA e2;obtain⟨kd,aaA⟩:=zN x.kd;obtain⟨nu,hnu⟩:=zN x.nu;obtain⟨pl,hpl⟩:=zN x.pl;obtain⟨l,hll⟩:=zN x.ks.length;rw[aaA]at xA e0;rw[hnu]at xA e3;rw[hpl]at xA e5;rw[hll]at xA e4;clear hcp hDr hpp qX hyk hky hkd hks L8 hkp hyp f2 f3 f5 fN hp vJ sO hp0 hnk hx0 hxl q1 q2 q3 hk hki hlp hml kS iQ aaA hnu hpl hll htx;go_upto_region 12 with(first|(go_at_call 11;refine Ib.o.mono ?_;rintro e w' ⟨rfl,rfl⟩))
       go_upto_region 15 with(first|(go_at_call 11;refine SH.o.mono ?_;rintro e w' ⟨rfl,rfl⟩))
       go_region_held3 (fun u=>u.cell? ⟨N,i*6,none⟩=some (.int .i64 kd)/\u.cell? ⟨N,i*6+1,none⟩=some (.string KY)/\u.cell? ⟨N,i*6+2,none⟩=some (.string TX)/\u.cell? ⟨N,i*6+3,none⟩=some (.int .i64 nu)/\u.cell? ⟨N,i*6+4,none⟩=some (.slice o l m)/\u.cell? ⟨N,i*6+5,none⟩=some (.int .i64 (pl:Nat))/\u.cell? ⟨N,p*6+4,none⟩=some (.slice op lp mp)) ((first|assumption|exact akU (a:=fun k=>if k=6 then⟨N,p*6+4,none⟩ else⟨N,i*6+k,none⟩) (by assumption) (by assumption)|go_keep)) (first|(go_at_call 14;refine CI.o.mono ?_;rintro e w6 ⟨rfl,rfl⟩)|(go_at_call 13;refine xA.o.mono ?_;rintro e w7 ⟨rfl,h7⟩))
       rename_i hHeld;obtain⟨-,k1,k2,-⟩:=hHeld;have HD7:=ae (jW.o.grow (ak nH.o h7.o));have qc:w7.cell? ⟨Q,2,none⟩=some (.slice o2 ml c2):=by rw[aj HD7.o.man];rfl
       obtain⟨i0,hi0,hii⟩:=Option.map_eq_some_iff.1 akS;simp only[Prod.mk.injEq]at hii;obtain⟨hz0,hz1,hzb⟩:=hii;have hrow:=HD7.o.row;rw[SN.o]at hrow;obtain⟨ys,hys⟩:=zN ((mQ ns i).nd.flatMap kF);have pG:=ae hys;rw[hys]at hrow;have hone:∀u∈([.string KY,.string TX]:List Value),u.oneCell'=true:=by simp[Value.oneCell']
       obtain⟨K,hK⟩:=zN (w7.heap.size);have hB0:w2.heap.size<=K:=by rw[<-hK];exact HD7.o.gb.size
       have fB:Hd ((w7.drew.alloc (.cells #[.string KY,.string TX] 51)).heap[K]?=some (.cells #[.string KY,.string TX] 51 (0,0))):=by
        have:=heap_alloc_new w7.drew (.cells #[.string KY,.string TX] 51);rw[show w7.drew.heap.size=K from hK]at this;exact this
       have y7:Hd (some Q≠(Value.slice o2 ml c2).ownBlock):=fun e=>by
        obtain⟨cc,hcc⟩:=(dO hrow e.symm).2;exact aZ HD7.o.man hcc (by decide) rfl
       have Ht:=ae HD7.o.man;have qA:(w7.alloc (.cells #[.string KY,.string TX] 51)).cell? ⟨Q,2,none⟩=some (.slice o2 ml c2):=(World.grownBy_alloc w7 _ none).cell qc (by simp);have k1A:(w7.alloc (.cells #[.string KY,.string TX] 51)).cell? ⟨N,i*6+1,none⟩=some (.string KY):=(World.grownBy_alloc w7 _ none).cell k1 (by simp);have k2A:(w7.alloc (.cells #[.string KY,.string TX] 51)).cell? ⟨N,i*6+2,none⟩=some (.string TX):=(World.grownBy_alloc w7 _ none).cell k2 (by simp);clear hys hz jW h7 CI xA Ib SH e0 e1 e2 e3 e4 e5 f0 f1 f4 r1 r2 r3;go_upto_region 16 with fail
       by_cases hzz:z=0
       ·subst hzz
        go_region_law (refine step_append_lies _ (by rfl) _ _ _ (by rfl) w2.heap.size 51 i0 _ 2 32 underlying28 hi0 hz0 hz1 hzb (by rfl) (by decide) (.slice o2 ml c2) ml ys (by rfl) (hrow.drew.alloc _) ⟨K,0,none⟩ 1 1 [.string KY,.string TX] (by rfl) (by rfl) (World.news_of_block fB.o) hone (by omega) (by unfold maxLen;omega) (by omega) (by simp;omega) _ rfl ?_;intro g cap w3 hown3 hgrow hat hlt3;have hc3:w3.cell? ⟨Q,2,none⟩=some (.slice o2 ml c2):=rY qc hgrow y7.o;have uB:w3.frozen? ⟨Q,2,none⟩=false:=xW Ht.o hgrow y7.o)
        all_goals (
         go_wp2;exact⟨(mO.o _ _ (by rw[SK.o];exact HD7.o.push (x:=⟨KY,TX⟩) SN.o (by rw[pG.o];exact hown3) hgrow)).1 rfl,by simp[intOf];omega⟩)
       ·have ald:(z != 0)=true:=by simpa using hzz
        have HZZ:=ae hzz;clear hzz
        go_region_law (refine step_append_lies _ (by rfl) _ _ _ (by rfl) w2.heap.size 51 i0 _ 2 32 underlying28 hi0 hz0 hz1 hzb (by rfl) (by decide) (.slice o2 ml c2) ml ys (by rfl) (hrow.drew.alloc _) ⟨K,0,none⟩ 1 1 [.string KY,.string TX] (by rfl) (by rfl) (World.news_of_block fB.o) hone (by omega) (by unfold maxLen;omega) (by omega) (by simp;omega) _ rfl ?_;intro g cap w3 hown3 hgrow hat hlt3;have hc3:w3.cell? ⟨Q,2,none⟩=some (.slice o2 ml c2):=rY qc hgrow y7.o;have uB:w3.frozen? ⟨Q,2,none⟩=false:=xW Ht.o hgrow y7.o)
        all_goals (
         go_wp2;exact⟨(mO.o _ _ (by rw[SK.o];exact HD7.o.push (x:=⟨KY,TX⟩) SN.o (by rw[pG.o];exact hown3) hgrow)).2 HZZ.o,by simp[intOf];omega⟩)
      ·have fF:(KP.toList == [110,101,101,100,115])=false\/((KP.toList == [110,101,101,100,115])=true/\((pp:Int) == 0)=false)\/((KP.toList == [110,101,101,100,115])=true/\((pp:Int) == 0)=true/\(kp == 0)=false):=by
        by_cases r1:yp=jE
        ·by_cases r2:pp=0
         ·exact Or.inr (Or.inr ⟨hyk.1 r1,by rw[r2];rfl,by simpa using fun r3=>hno ⟨r1,r2,r3⟩⟩)
         ·exact Or.inr (Or.inl ⟨hyk.1 r1,by simpa using(show ¬(pp:Int)=0 by omega)⟩)
        ·exact Or.inl (hyk.2 r1)
       have HE:=ae (mO.o wr vn (by rw[hmq];exact jW.o));have oh:=ae (HE.o.1 qX);clear hcp hDr hpp hno qX hmq mO HE hyk hky hkd hks L8 hkp hyp f2 f3 f4 f5 fN hp vJ sO hp0
       rcases fF with r1|⟨r1,r2⟩|⟨r1,r2,r3⟩
       all_goals (
        go_upto_region 12 with(first|(go_at_call 11;refine Ib.o.mono ?_;rintro e w' ⟨rfl,rfl⟩))
        go_wp2_with (go_at_call 11;refine SH.o.mono ?_;rintro e w' ⟨rfl,rfl⟩);exact⟨oh.o,by simp[intOf];omega⟩)
    ·have hiL:i=L:=by omega
     have Ef:Hd (R=xm ns):=by
      have hh:=vJ.o;rw[hiL,Nat.sub_self]at hh;have h2:C0=.ok ():=hh.symm;show _=_;rw[L6.o,h2];rfl
     have hDr:=HD.o.grow jW.o.gb;have hm:mQ ns i=mQ ns ns.length:=by rw[hiL,HL.o]
     rw[hm]at jW;obtain⟨hg2,h0,a0,a1,a2,af⟩:=bl.o _ (ak SG.o jW.o.gb);have H0:=ae h0;have HG2:=ae hg2;obtain⟨o2,c2,rfl⟩:=nV jW.o.row;have CK:∀k,Calls prog 15 #[.slice (some ⟨N,0,none⟩) L c,.int .i64 0,.string ⟨k.toArray⟩] wr fun e w''=>e=.returned (.int .i64 (oD ns 0 k))/\wr=w'':=fun k=>by
      have:=hDr.cKid 0 HV.o.root.1 k;rw[HL.o]at this;exact this.mono fun e w'' hh=>⟨hh.1,hh.2.symm⟩
     have Eg:=ae (CK ig);have Ic:=ae (CK iG);unfold ig at Eg;unfold iG at Ic;have uY:=ae jW.o;clear hiL L6 vJ hDr hm h0 hg2 CK jW hi hi1
     by_cases k1:(aK ns 0 ig).isSome=true
     ·obtain⟨y1,hy1⟩:=aaz k1;unfold ig at hy1;rw[hy1]at Eg
      by_cases k2:(aK ns 0 iG).isSome=true
      ·obtain⟨y2,hy2⟩:=aaz k2;unfold iG at hy2;rw[hy2]at Ic;have HY:Hd (R=.ok (mQ ns ns.length)):=by show _=_;rw[Ef.o];unfold xm;rw[if_pos ⟨k1,k2⟩]
       have g0:wr.cell? ⟨Q,0,none⟩=some (.string (mQ ns ns.length).nm):=by rw[aj uY.o.man];rfl
       have g1:wr.cell? ⟨Q,1,none⟩=some (.string (mQ ns ns.length).ve):=by rw[aj uY.o.man];rfl
       have g2:wr.cell? ⟨Q,2,none⟩=some (.slice o2 (mQ ns ns.length).nd.length c2):=by rw[aj uY.o.man];rfl
       have HRW:=ae (LU (B':=w.heap.size) (Nat.le_trans (bl.o _ SG.o).1.size (Nat.le_refl _)) uY.o.row);obtain⟨M,hM⟩:=zN (mQ ns ns.length);rw[hM]at HY g0 g1 g2 HRW;clear k1 k2 hy1 hy2 Ef uY hM;go_upto_region 20 with fail
       go_upto_region 22 with fail
       go_wp2_with (first|(go_at_call_of 15 (Value.string ⟨#[110,97,109,101]⟩);refine Eg.o.mono ?_;rintro e w'' ⟨rfl,rfl⟩)|(go_at_call_of 15 (Value.string ⟨#[118,101,114,115,105,111,110]⟩);refine Ic.o.mono ?_;rintro e w'' ⟨rfl,rfl⟩));refine bodyPost_ret (jS (p:=2) (u:=3) (r:=4) rfl _ _ A _ _ (0,0) _ rfl (pz H0.o) underlying30 rfl (by kernel_rfl)) rfl ?_;rw[HY.o];exact⟨_,rfl,rG HG2.o HA.o.1 _ _ _,LQ (by decide) H0.o HRW.o⟩
      ·have hy2:=aay k2;unfold iG at hy2;rw[hy2]at Ic;have HY:Hd (R=.error (6,0)):=by show _=_;rw[Ef.o];unfold xm;rw[if_neg fun e=>k2 e.2]
       clear k1 k2 hy1 hy2 Ef uY;go_upto_region 20 with fail
       go_upto_region 22 with fail
       go_wp2_with (first|(go_at_call_of 15 (Value.string ⟨#[110,97,109,101]⟩);refine Eg.o.mono ?_;rintro e w'' ⟨rfl,rfl⟩)|(go_at_call_of 15 (Value.string ⟨#[118,101,114,115,105,111,110]⟩);refine Ic.o.mono ?_;rintro e w'' ⟨rfl,rfl⟩));refine bodyPost_ret (jS (p:=2) (u:=3) (r:=4) rfl _ _ A _ _ (0,0) _ rfl (pz H0.o) underlying30 rfl (by kernel_rfl)) rfl ?_;exact AA (p:=0) HY.o (rG HG2.o HA.o.1 _ _ _)
     ·have hy1:=aay k1;unfold ig at hy1;rw[hy1]at Eg;have HY:Hd (R=.error (6,0)):=by show _=_;rw[Ef.o];unfold xm;rw[if_neg fun e=>k1 e.1]
      clear k1 hy1 Ef uY;go_upto_region 20 with fail
      go_upto_region 22 with fail
      go_wp2_with (first|(go_at_call_of 15 (Value.string ⟨#[110,97,109,101]⟩);refine Eg.o.mono ?_;rintro e w'' ⟨rfl,rfl⟩));refine bodyPost_ret (jS (p:=2) (u:=3) (r:=4) rfl _ _ A _ _ (0,0) _ rfl (pz H0.o) underlying30 rfl (by kernel_rfl)) rfl ?_;exact AA (p:=0) HY.o (rG HG2.o HA.o.1 _ _ _)
   ·have hDr:=HD.o.grow jW.o.gb;obtain⟨-,-,-,-,-,-,-,e5,-⟩:=hDr.node hj;obtain⟨pl,hpl⟩:=zN (ns[j].pl);rw[hpl]at hmc e5;have HY:Hd (R=.error (z,pl)):=by show _=_;rw[L6.o,hmc];rfl
    obtain⟨hg2,h0,a0,a1,a2,af⟩:=bl.o _ (ak SG.o jW.o.gb);have H0:=ae h0;have HG2:=ae hg2;have hjL:j<L:=by rw[<-HL.o];exact hj
    have hj0:¬(j:Int)<0:=by omega
    have hj1:(0:Int)<=(j:Int):=by omega
    have hj2:decide ((j:Int)<0)=false:=by simp
    clear hDr hpl hmc h0 hg2 L6 jW hj
    by_cases hiL:i<L
    ·have hiI:(i:Int)<(L:Int):=by omega
     clear hiL;go_upto_region 20 with fail
     go_upto_region 21 with fail
     go_region
     all_goals (
      go_wp2;refine bodyPost_ret (jS (p:=2) (u:=3) (r:=4) rfl _ _ A _ _ (0,0) _ rfl (pz H0.o) underlying30 rfl (by kernel_rfl)) rfl ?_;exact AA HY.o (rG (az HG2.o 1) HA.o.1 _ _ _))
    ·have hiI:¬(i:Int)<(L:Int):=by omega
     clear hiL;go_upto_region 20 with fail
     go_upto_region 21 with fail
     go_region
     all_goals (
      go_wp2;refine bodyPost_ret (jS (p:=2) (u:=3) (r:=4) rfl _ _ A _ _ (0,0) _ rfl (pz H0.o) underlying30 rfl (by kernel_rfl)) rfl ?_;exact AA HY.o (rG (az HG2.o 1) HA.o.1 _ _ _))
end Go.Proofs.YtbcfhgpfgdbjgaaGreatDoor
