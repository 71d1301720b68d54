import Derived.Test.YtnnbgjaphfhibaaGreatDoorM19
import Derived.Test.YtnnbgjaphfhibaaGreatDoorM24
import Derived.Test.YtnnbgjaphfhibaaGreatDoorM06
import Derived.Test.YtnnbgjaphfhibaaGreatDoorM01
import Derived.Test.YtnnbgjaphfhibaaGreatDoorM23
import Derived.Test.YtnnbgjaphfhibaaGreatDoorM17
import Derived.Deep.RegionHeld3
set_option linter.unusedVariables false
set_option linter.unusedSimpArgs false
set_option maxRecDepth 100000
set_option maxHeartbeats 6400000
open Go.Proofs.Tryz
namespace Go.Proofs.YtnnbgjaphfhibaaGreatDoor
open Go.RowKit Go.Maps Go.WideMaps Go.Joins
structure Dc(w:World)(N c:Nat)(ns:List Tn):Prop where
 tre:∃B m own OV xs ks,DtD w B 0 ns m own (.slice (some ⟨N,0,none⟩) ns.length c) OV xs ks/\WF ns own
 tv:∃S,Tv 100000 ns S
 len:ns.length<=1000000
 cap:ns.length<=c
 kid:∀i (hi:i<ns.length),ns[i].ks.length<=1000000
theorem Dc.grow{w w':World}{N c:Nat}{ns:List Tn}(h:Dc w N c ns)(hg:w.grownBy w' none):Dc w' N c ns:=by
 obtain⟨B,m,own,OV,xs,ks,hD,W⟩:=h.tre;exact⟨⟨B,m,own,OV,xs,ks,hD.gb hg,W⟩,h.tv,h.len,h.cap,h.kid⟩
theorem Dc.node{w:World}{N c:Nat}{ns:List Tn}(h:Dc w N c ns){i:Nat}(hi:i<ns.length):∃o m,w.cell? ⟨N,i*6,none⟩=some (.int .i64 ns[i].kd)/\w.cell? ⟨N,i*6+1,none⟩=some (.string ⟨ns[i].ky.toArray⟩)/\w.cell? ⟨N,i*6+2,none⟩=some (.string ⟨ns[i].tx.toArray⟩)/\w.cell? ⟨N,i*6+3,none⟩=some (.int .i64 ns[i].nu)/\w.cell? ⟨N,i*6+4,none⟩=some (.slice o ns[i].ks.length m)/\w.cell? ⟨N,i*6+5,none⟩=some (.int .i64 (ns[i].pl:Nat))/\NuS w (.slice o ns[i].ks.length m) ns[i].ks:=by
 obtain⟨B,m,own,OV,xs,ks,hD,W⟩:=h.tre;obtain⟨h0,h1,h2,h3,h4,h5,-⟩:=hD.node i hi;have hk:=NuS.of (hD.kid i hi);obtain⟨o,c',e,hh⟩:=hk;refine⟨o,c',h0,h1,h2,h3,?_,h5,o,c',rfl,hh⟩;rw[<-e];exact h4
theorem Dc.cKid{w:World}{N c:Nat}{ns:List Tn}(h:Dc w N c ns)(t:Nat)(ht:t<ns.length)(k:List UInt8) :
  Calls prog 14 #[.slice (some ⟨N,0,none⟩) ns.length c,.int .i64 (t:Nat),.string ⟨k.toArray⟩] w fun e w'=>e=.returned (.int .i64 (fK ns t k))/\w'=w:=by
 obtain⟨B,m,own,OV,xs,ks,hD,W⟩:=h.tre;exact Hz w B 0 ns m own N c OV xs ks t k hD W ht h.len
def rE(l:List Nat)(n:Nat):Int:=if n∈l then((dV l n).length:Int) else -1
theorem VN:∀(l:List Nat) (n i:Nat) (hi:i<l.length),(∀j (hj:j<l.length),j<i->¬l[j]=n)->l[i]=n->dV l n=l.take i
 | a :: r,n,0,_,_,h=>by
  have:a=n:=h;unfold dV;rw[List.takeWhile_cons,decide_eq_false (by simpa using this)];rfl
 | a :: r,n,i+1,hi,ha,h=>by
  have h0:¬a=n:=ha 0 (by simp) (by omega);unfold dV;rw[List.takeWhile_cons,decide_eq_true (by simpa using h0)];simp only[if_true,List.take_succ_cons];exact congrArg _ (VN r n i (by simpa using hi) (fun j hj hji=>ha (j+1) (by simpa using hj) (by omega)) h)
theorem ad2{l:List Nat}{n i:Nat}(hi:i<l.length)(ha:∀j (hj:j<l.length),j<i->¬l[j]=n)(h:l[i]=n):rE l n=(i:Int):=by
 unfold rE;rw[if_pos (by rw[<-h];exact List.getElem_mem hi),VN l n i hi ha h,List.length_take,Nat.min_eq_left (by omega)]
theorem ad3{l:List Nat}{n:Nat}(h:∀j (hj:j<l.length),¬l[j]=n):rE l n=-1:=by
 unfold rE;rw[if_neg];intro hm;obtain⟨j,hj,e⟩:=List.getElem_of_mem hm;exact h j hj e
theorem VO(w:World)(o:Option Addr)(m M:Nat)(l:List Nat)(n:Nat)(hM:l.length=M)(h:NuS w (.slice o M m) l)(hl:M<=1000000) :
  Calls prog 32 #[.slice o M m,.int .i64 (n:Nat)] w fun e w'=>e=.returned (.int .i64 (rE l n))/\w'=w:=by
 have HC:Hd (∀i (hi:i<l.length),∃g,o=some ⟨g,0,none⟩/\w.cell? ⟨g,i,none⟩=some (.int .i64 (l[i]:Nat))):=fun i hi=>by
  obtain⟨o',c',e,hh⟩:=h;injection e with e _ _
  rw[e];exact hh i hi
 have HM:Hd (l.length=M):=hM;obtain⟨r,hr⟩:=zN (rE l n);have HR:Hd (rE l n=r):=hr;rw[hr];clear h hM hr;go_enter func32,ntmps32;go_wp2;go_loopw [5] (fun vi wr=>∃i:Nat,vi=.int .i64 (i:Nat)/\i<=M/\(∀j (hj:j<l.length),j<i->¬l[j]=n)/\w=wr) (fun vi _=>M-(intOf vi).toNat)
 case atStart=>exact⟨0,rfl,by omega,fun j hj h=>absurd h (by omega),rfl⟩
 case round =>
  obtain⟨i,rfl,hi,hpre,rfl⟩:=hrel;have HP:Hd (∀j (hj:j<l.length),j<i->¬l[j]=n):=hpre;clear hpre
  by_cases hlt:i<M
  ·have hlt':i<l.length:=by rw[HM.o];exact hlt
   obtain⟨g,hg,cg⟩:=HC.o i hlt';obtain⟨q,hq⟩:=zN (l[i]);have HQ:Hd (l[i]=q):=hq;rw[hq]at cg;subst hg;clear hq
   by_cases e:q=n
   ·have hb:((q:Int) == (n:Int))=true:=by rw[e];simp
    have HRR:Hd (r=(i:Int)):=by
     show _=_;rw[<-HR.o,ad2 hlt' HP.o (HQ.o.trans e)]
    clear e;go_wp2;go_ret;exact⟨dD HRR.o.symm,rfl⟩
   ·have hb:((q:Int) == (n:Int))=false:=by simpa using(show ¬(q:Int)=(n:Int) by omega)
    have HP2:Hd (∀j (hj:j<l.length),j<i+1->¬l[j]=n):=fun j hj hji=>by
     by_cases hj':j<i
     ·exact HP.o j hj hj'
     ·have e':j=i:=by omega
      subst e';rw[HQ.o];exact e
    clear e;go_wp2;refine⟨⟨i+1,by go_num,by omega,HP2.o,by first|trivial|rfl⟩,?_⟩;simp[intOf];omega
  ·have HRR:Hd (r=-1):=by
    show _=_;rw[<-HR.o,ad3 fun j hj=>HP.o j hj (by rw[HM.o]at hj;omega)]
   go_wp2;go_ret;exact⟨dD HRR.o.symm,rfl⟩
theorem VP(w:World)(N c:Nat)(ns:List Tn)(h:Dc w N c ns)(i p:Nat)(hp:i∈ae ns p) :
  Calls prog 31 #[.slice (some ⟨N,0,none⟩) ns.length c,.int .i64 (i:Nat)] w fun e w'=>e=.returned (.int .i64 (p:Nat))/\w'=w:=by
 obtain⟨S,T⟩:=h.tv;have HP:Hd (i∈ae ns p/\p<ns.length/\∀q,i∈ae ns q->q=p):=⟨hp,xP hp,fun q hq=>T.uni _ _ _ hq hp⟩;have CI:Hd (∀k (hk:k<ns.length),∃o m,w.cell? ⟨N,k*6+4,none⟩=some (.slice o ns[k].ks.length m)/\Calls prog 32 #[.slice o ns[k].ks.length m,.int .i64 (i:Nat)] w fun e w'=>e=.returned (.int .i64 (rE (ae ns k) i))/\w'=w):=fun k hk=>by
  obtain⟨o,m,-,-,-,-,h4,-,hn⟩:=h.node hk;refine⟨o,m,h4,?_⟩;have e:ae ns k=ns[k].ks:=by unfold ae;rw[List.getElem?_eq_getElem hk]
  rw[e];exact VO w o m _ ns[k].ks i rfl hn (h.kid k hk)
 have hl:=h.len;have hc:=h.cap;obtain⟨L,hL⟩:=zN (ns.length);have HL:Hd (ns.length=L):=hL;rw[hL]at hl hc ⊢;clear h hp hL T;go_enter func31,ntmps31;go_wp2;go_loopw [5] (fun vi wr=>∃k:Nat,vi=.int .i64 (k:Nat)/\k<=L/\(∀j,j<k->¬i∈ae ns j)/\w=wr) (fun vi _=>L-(intOf vi).toNat)
 case atStart=>exact⟨0,rfl,by omega,fun j h=>absurd h (by omega),rfl⟩
 case round =>
  obtain⟨k,rfl,hk,hpre,rfl⟩:=hrel;have HQ:Hd (∀j,j<k->¬i∈ae ns j):=hpre;clear hpre
  by_cases hlt:k<L
  ·obtain⟨o,m,c4,CC⟩:=CI.o k (by rw[HL.o];exact hlt);obtain⟨x,hx⟩:∃x,(ns[k]'(by rw[HL.o];exact hlt)).ks.length=x:=⟨_,rfl⟩;rw[hx]at c4 CC
   by_cases e:i∈ae ns k
   ·have HE:Hd (k=p):=HP.o.2.2 k e;obtain⟨z,hz⟩:∃z:Nat,(dV (ae ns k) i).length=z:=⟨_,rfl⟩;have CX:Hd (Calls prog 32 #[.slice o x m,.int .i64 (i:Nat)] w fun e w'=>e=.returned (.int .i64 (z:Nat))/\w=w'):=CC.mono fun e' w' hh=>by
     refine⟨?_,hh.2.symm⟩;rw[hh.1];unfold rE;rw[if_pos e,hz]
    have hzz:(0:Int)<=(z:Int):=by omega
    clear e CC hx hz;go_wp2_with (go_at_call 32;refine CX.o.mono ?_;rintro e' w' ⟨rfl,rfl⟩);go_ret;exact⟨dD (show(k:Int)=(p:Int) by rw[HE.o]),rfl⟩
   ·have jB:Hd (∀j,j<k+1->¬i∈ae ns j):=fun j hj=>by
     by_cases hj':j<k
     ·exact HQ.o j hj'
     ·rw[show j=k by omega];exact e
    have CX:Hd (Calls prog 32 #[.slice o x m,.int .i64 (i:Nat)] w fun e w'=>e=.returned (.int .i64 (-1))/\w=w'):=CC.mono fun e' w' hh=>by
     refine⟨?_,hh.2.symm⟩;rw[hh.1];unfold rE;rw[if_neg e]
    clear e CC hx;go_wp2_with (go_at_call 32;refine CX.o.mono ?_;rintro e' w' ⟨rfl,rfl⟩);refine⟨⟨k+1,by go_num,by omega,jB.o,by first|trivial|rfl⟩,?_⟩;simp[intOf];omega
  ·exact absurd HP.o.1 (HQ.o p (by have:=HP.o.2.1;rw[HL.o]at this;omega))
open Go.RowKit Go.Maps Go.WideMaps Go.Joins
def Kt(t:TypeId)(w w':World):Prop:=∀(b:Nat) (cs:Array Value) (fz:Nat × Nat),w.heap[b]?=some (.cells cs t fz)->w'.heap[b]?=w.heap[b]?
theorem bf{t:TypeId}{w w':World}(hg:w.grownBy w' none):Kt t w w':=fun b cs fz hb=>hg.block b (aB hb) (by simp)
theorem ad4{t X:TypeId}{w w':World}{g:Nat}{c:Array Value}{fz:Nat × Nat}(hg:w.grownBy w' (some g))(hX:w.heap[g]?=some (.cells c X fz))(hne:¬t=X):Kt t w w':=fun b cs fz' hb=>hg.block b (aB hb) (by
 simp only[ne_eq,Option.some.injEq];exact aP hb hX hne)
theorem yG{t X:TypeId}{w w':World}{B s n:Nat}{v:Value}{xs:List Value}(hr:w.ownsRow B X s v n xs)(hg:w.grownBy w' v.ownBlock)(hne:¬t=X):Kt t w w':=fun b cs fz hb=>hg.block b (aB hb) (fun e=>by
 obtain⟨-,cur,hc⟩:=bz hr e.symm;exact aP hb hc hne rfl)
theorem iP{t X:TypeId}{w:World}{g o:Nat}{c:Array Value}{fz:Nat × Nat}(v:Value)(hX:w.heap[g]?=some (.cells c X fz))(hne:¬t=X):Kt t w (w.setCell ⟨g,o,none⟩ v):=ad4 (iM w g o v) hX hne
theorem Kt.two{t:TypeId}{a b c:World}(h:Kt t a b)(h':Kt t b c):Kt t a c:=fun x cs fz hx=>(h' x cs fz ((h x cs fz hx).trans hx)).trans (h x cs fz hx)
theorem Kt.blk{t:TypeId}{w w':World}(h:Kt t w w'){b:Nat}{cs:Array Value}{fz:Nat × Nat}(hb:w.heap[b]?=some (.cells cs t fz)):w'.heap[b]?=some (.cells cs t fz):=(h b cs fz hb).trans hb
theorem Kt.row{t:TypeId}{w w':World}(h:Kt t w w'){B s n:Nat}{v:Value}{xs:List Value}(hr:w.ownsRow B t s v n xs):w'.ownsRow B t s v n xs:=bP hr fun g cur _ hc=>h g cur _ hc
def LkV(w:World)(D T:Nat)(v:Value):Option iT->Prop
 | none=>v=.nilFunc
 | some .root=>∃a b,v=.func (.func 24) #[] #[.pointer (some ⟨a,0,none⟩),.pointer (some ⟨b,0,none⟩)]/\w.heap[a]?=some (.cells #[.pointer (some ⟨D,0,none⟩)] 59 (0,0))/\w.heap[b]?=some (.cells #[.pointer (some ⟨T,0,none⟩)] 57 (0,0))
 | some .tabs=>∃a,v=.func (.func 49) #[] #[.pointer (some ⟨a,0,none⟩)]/\w.heap[a]?=some (.cells #[.pointer (some ⟨D,0,none⟩)] 59 (0,0))
 | some (.key e)=>∃a b,v=.func (.func 75) #[] #[.pointer (some ⟨a,0,none⟩),.pointer (some ⟨b,0,none⟩)]/\w.heap[a]?=some (.cells #[.pointer (some ⟨D,0,none⟩)] 59 (0,0))/\w.heap[b]?=some (.cells #[.int .i64 (e:Nat)] 3 (0,0))
 | some (.val e)=>∃a b,v=.func (.func 118) #[] #[.pointer (some ⟨a,0,none⟩),.pointer (some ⟨b,0,none⟩)]/\w.heap[a]?=some (.cells #[.pointer (some ⟨D,0,none⟩)] 59 (0,0))/\w.heap[b]?=some (.cells #[.int .i64 (e:Nat)] 3 (0,0))
structure Bx(w w':World):Prop where
 d:Kt 59 w w'
 t:Kt 57 w w'
 i:Kt 3 w w'
theorem LkV.keep{w w':World}{D T:Nat}{v:Value}{k:Option iT}(h:LkV w D T v k)(hk:Bx w w'):LkV w' D T v k:=by
 match k,h with
 | none,h=>exact h
 | some .root,⟨a,b,h1,h2,h3⟩=>exact⟨a,b,h1,hk.d.blk h2,hk.t.blk h3⟩
 | some .tabs,⟨a,h1,h2⟩=>exact⟨a,h1,hk.d.blk h2⟩
 | some (.key e),⟨a,b,h1,h2,h3⟩=>exact⟨a,b,h1,hk.d.blk h2,hk.i.blk h3⟩
 | some (.val e),⟨a,b,h1,h2,h3⟩=>exact⟨a,b,h1,hk.d.blk h2,hk.i.blk h3⟩
def VQ(w:World)(D T:Nat):Prop:=w.heap[D+1]?=some (.cells #[.pointer (some ⟨D,0,none⟩)] 59 (0,0))/\w.heap[D-1]?=some (.cells #[.pointer (some ⟨T,0,none⟩)] 57 (0,0))
def LoB(w:World)(D T Lb n:Nat)(lk:Nat->Option iT):Prop:=∃cs:Array Value,w.heap[Lb]?=some (.cells cs 67 (0,0))/\cs.size=n/\(∀q (hq:q<cs.size),LkV w D T cs[q] (lk q))/\VQ w D T
theorem LoB.keep{w w':World}{D T Lb n:Nat}{lk:Nat->Option iT}(h:LoB w D T Lb n lk)(hl:Kt 67 w w')(hk:Bx w w'):LoB w' D T Lb n lk:=by
 obtain⟨cs,h1,h2,h3,h4⟩:=h;exact⟨cs,hl.blk h1,h2,fun q hq=>(h3 q hq).keep hk,hk.d.blk h4.1,hk.t.blk h4.2⟩
theorem LoB.set{w:World}{D T Lb n:Nat}{lk:Nat->Option iT}(h:LoB w D T Lb n lk)(q:Nat)(hq:q<n)(v:Value)(k:iT)(hv:LkV w D T v (some k)):LoB (w.setCell ⟨Lb,q,none⟩ v) D T Lb n (fun p=>if p=q then some k else lk p):=by
 obtain⟨cs,h1,h2,h3,h4⟩:=h;have hb:Bx w (w.setCell ⟨Lb,q,none⟩ v):=⟨iP v h1 (by decide),iP v h1 (by decide),iP v h1 (by decide)⟩;refine⟨cs.setIfInBounds q v,block_setCell h1 _,by simpa using h2,fun p hp=>?_,hb.d.blk h4.1,hb.t.blk h4.2⟩;have hp':p<cs.size:=by simpa using hp
 show LkV _ D T _ (if p=q then some k else lk p)
 by_cases e:p=q
 ·subst e;rw[if_pos rfl,Array.getElem_setIfInBounds_self];exact hv.keep hb
 ·rw[if_neg e,Array.getElem_setIfInBounds_ne hp' (fun h=>e h.symm)];exact(h3 p hp').keep hb
structure EnB(B:Nat)(w:World)(es:List En)(ve:Value)(xs:List Value)(vs:Nat->Value):Prop where
 row:w.ownsRow B 33 4 ve es.length xs
 cel:∀i (hi:i<es.length),xs[i*4]?=some (.string es[i].nm)/\xs[i*4+1]?=some (.string es[i].ve)/\xs[i*4+2]?=some (.string es[i].dg)/\xs[i*4+3]?=some (vs i)
 nee:∀i (hi:i<es.length),w.ownsRow B 9 1 (vs i) es[i].nd.length (es[i].nd.map Value.string)
 apa:∀i j g,i<es.length->j<es.length->(vs i).ownBlock=some g->(vs j).ownBlock=some g->i=j
section
variable {B:Nat} {w w':World} {es:List En} {ve:Value} {xs:List Value} {vs:Nat->Value}
theorem EnB.keep(h:EnB B w es ve xs vs)(h1:Kt 33 w w')(h2:Kt 9 w w'):EnB B w' es ve xs vs:=⟨h1.row h.row,h.cel,fun i hi=>h2.row (h.nee i hi),h.apa⟩
theorem EnB.at(h:EnB B w es ve xs vs){i:Nat}(hi:i<es.length):∃E c,ve=.slice (some ⟨E,0,none⟩) es.length c/\B<=E/\(∃cur,w.heap[E]?=some (.cells cur 33 (0,0)))/\w.cell? ⟨E,i*4,none⟩=some (.string es[i].nm)/\w.cell? ⟨E,i*4+1,none⟩=some (.string es[i].ve)/\w.cell? ⟨E,i*4+2,none⟩=some (.string es[i].dg)/\w.cell? ⟨E,i*4+3,none⟩=some (vs i)/\es.length<=c:=by
 rcases h.row.2 with⟨e1,e2⟩|⟨g,cap,cu,e1,hb,hgg,hn,hm,hs,ht⟩
 ·exact absurd e2 (by omega)
 ·obtain⟨h0,h1,h2,h3⟩:=h.cel i hi;have key:∀j u,xs[j]?=some u->w.cell? ⟨g,j,none⟩=some u:=fun j u hu=>by
   have:=h.row.cells (g:=g) (by rw[e1];rfl) j u hu;rw[ni]at this;exact this
  exact⟨g,cap,e1,hb,⟨cu,hgg⟩,key _ _ h0,key _ _ h1,key _ _ h2,key _ _ h3,hn⟩
theorem EnB.ens(h:EnB B w es ve xs vs):EnS w ve es:=by
 rcases h.row.2 with⟨e1,e2⟩|⟨g,cap,cu,e1,hb,hgg,hn,hm,hs,ht⟩
 ·refine Or.inl ⟨e1,?_⟩;exact List.eq_nil_of_length_eq_zero (by omega)
 ·refine Or.inr ⟨⟨g,0,none⟩,cap,e1,hn,fun i hi=>?_⟩;obtain⟨E,c,e2,-,-,c0,c1,c2,c3,-⟩:=h.at hi;rw[e1]at e2
  cases e2
  unfold EnAt;rw[ni];exact⟨c0,c1,c2,vs i,c3,Ja (base:=B) rfl (h.nee i hi)⟩
theorem VT{t:TypeId}{s E n c k:Nat}(h:w.ownsRow B t s (.slice (some ⟨E,0,none⟩) n c) n xs)(v:Value):(w.setCell ⟨E,k,none⟩ v).ownsRow B t s (.slice (some ⟨E,0,none⟩) n c) n (xs.set k v):=by
 refine⟨by rw[List.length_set];exact h.1,?_⟩
 rcases h.2 with⟨e1,_⟩|⟨g',cap',cu,e1,hb,hgg,hn,hm,hs,ht⟩
 ·cases e1
 ·cases e1
  refine Or.inr ⟨E,c,cu.setIfInBounds k v,rfl,hb,block_setCell hgg _,hn,hm,by simpa using hs,?_⟩;rw[Array.toList_setIfInBounds,List.take_set,ht]
def zE:List Value:=[.string ⟨#[]⟩,.string ⟨#[]⟩,.string ⟨#[]⟩,.slice none 0 0]
theorem EnB.push(h:EnB B w es ve xs vs){v':Value}(ho:w'.ownsRow B 33 4 v' (es.length+1) (xs++zE))(hg:w.grownBy w' ve.ownBlock):EnB B w' (es++[en0]) v' (xs++zE) (fun i=>if i=es.length then .slice none 0 0 else vs i):=by
 have hxl:xs.length=es.length*4:=h.row.1;have hl:(es++[en0]).length=es.length+1:=by simp
 refine⟨by rw[hl];exact ho,fun i hi=>?_,fun i hi=>?_,fun i j g hi hj h1 h2=>?_⟩
 ·by_cases e:i=es.length
  ·subst e;have ge:(es++[en0])[es.length]=en0:=by simp
   have gx:∀k,(xs++zE)[es.length*4+k]?=zE[k]?:=fun k=>by rw[List.getElem?_append_right (by omega),show es.length*4+k-xs.length=k by omega]
   rw[ge,if_pos rfl];exact⟨gx 0,gx 1,gx 2,gx 3⟩
  ·have hi':i<es.length:=by omega
   have ge:(es++[en0])[i]=es[i]:=List.getElem_append_left hi';rw[ge,if_neg e];obtain⟨h0,h1,h2,h3⟩:=h.cel i hi';have gx:∀k,k<4->(xs++zE)[i*4+k]?=xs[i*4+k]?:=fun k hk=>List.getElem?_append_left (by omega)
   exact⟨(gx 0 (by omega)).trans h0,(gx 1 (by omega)).trans h1,(gx 2 (by omega)).trans h2,(gx 3 (by omega)).trans h3⟩
 ·by_cases e:i=es.length
  ·subst e;have ge:(es++[en0])[es.length]=en0:=by simp
   rw[ge,if_pos rfl];exact⟨rfl,Or.inl ⟨rfl,rfl⟩⟩
  ·have hi':i<es.length:=by omega
   have ge:(es++[en0])[i]=es[i]:=List.getElem_append_left hi';rw[ge,if_neg e];exact(yG h.row hg (by decide)).row (h.nee i hi')
 ·by_cases e:i=es.length
  ·rw[if_pos e]at h1;cases h1
  ·by_cases e2:j=es.length
   ·rw[if_pos e2]at h2;cases h2
   ·rw[if_neg e]at h1;rw[if_neg e2]at h2;exact h.apa i j g (by omega) (by omega) h1 h2
theorem VU(ys:List Value)(k:Nat)(u:Value)(hk:k<ys.length)(m:Nat):(ys.set k u)[m]?=if m=k then some u else ys[m]?:=by
 by_cases e:m=k
 ·subst e;rw[if_pos rfl,List.getElem?_set_self hk]
 ·rw[if_neg e,List.getElem?_set_ne (fun h=>e h.symm)]
theorem EnB.txt{E n c:Nat}(h:EnB B w es (.slice (some ⟨E,0,none⟩) n c) xs vs){i:Nat}(hi:i<es.length)(o:Nat)(ho:o<3)(s:ByteArray)(y:En)(h0:y.nm=if o=0 then s else es[i].nm)(h1:y.ve=if o=1 then s else es[i].ve)(h2:y.dg=if o=2 then s else es[i].dg)(h3:y.nd=es[i].nd):EnB B (w.setCell ⟨E,i*4+o,none⟩ (.string s)) (es.set i y) (.slice (some ⟨E,0,none⟩) n c) (xs.set (i*4+o) (.string s)) vs:=by
 have hxl:xs.length=es.length*4:=h.row.1;obtain⟨cur,hE⟩:=(bz h.row rfl).2;obtain rfl:n=es.length:=by
  rcases h.row.2 with⟨e1,_⟩|⟨g',cap',cu,e1,_⟩
  ·cases e1
  ·cases e1;rfl
 have gx:=VU xs (i*4+o) (.string s) (by omega);refine⟨by rw[List.length_set];exact VT h.row _,fun j hj=>?_,fun j hj=>?_,fun a b g ha hb=>?_⟩
 ·have hj':j<es.length:=by rw[List.length_set]at hj;exact hj
  obtain⟨c0,c1,c2,c3⟩:=h.cel j hj';simp only[gx]
  by_cases e:j=i
  ·subst e;simp only[List.getElem_set_self,h0,h1,h2];rw[if_neg (show ¬j*4+3=j*4+o by omega)];refine⟨?_,?_,?_,c3⟩
   ·by_cases e:o=0
    ·rw[if_pos (by omega),if_pos e]
    ·rw[if_neg (by omega),if_neg e];exact c0
   ·by_cases e:o=1
    ·rw[if_pos (by omega),if_pos e]
    ·rw[if_neg (by omega),if_neg e];exact c1
   ·by_cases e:o=2
    ·rw[if_pos (by omega),if_pos e]
    ·rw[if_neg (by omega),if_neg e];exact c2
  ·simp only[List.getElem_set_ne (fun h=>e h.symm:¬i=j)];rw[if_neg (by omega),if_neg (by omega),if_neg (by omega),if_neg (by omega)];exact⟨c0,c1,c2,c3⟩
 ·have hj':j<es.length:=by rw[List.length_set]at hj;exact hj
  have kt:Kt 9 w (w.setCell ⟨E,i*4+o,none⟩ (.string s)):=iP _ hE (by decide)
  by_cases e:j=i
  ·subst e;simp only[List.getElem_set_self,h3];exact kt.row (h.nee j hj')
  ·simp only[List.getElem_set_ne (fun h=>e h.symm:¬i=j)];exact kt.row (h.nee j hj')
 ·rw[List.length_set]at ha hb;exact h.apa a b g ha hb
theorem EnB.need{E n c:Nat}(h:EnB B w es (.slice (some ⟨E,0,none⟩) n c) xs vs){i:Nat}(hi:i<es.length)(s:ByteArray){v':Value}(ho:w'.ownsRow B 9 1 v' (es[i].nd.length+1) (es[i].nd.map Value.string++[.string s]))(hg:w.grownBy w' (vs i).ownBlock)(hat:v'.ownBlock=(vs i).ownBlock\/v'.ownBlock=some w.heap.size\/∃g,v'.ownBlock=some g/\w.heap.size<=g) :
  EnB B (w'.setCell ⟨E,i*4+3,none⟩ v') (es.set i ⟨es[i].nm,es[i].ve,es[i].dg,es[i].nd++[s]⟩) (.slice (some ⟨E,0,none⟩) n c) (xs.set (i*4+3) v') (fun j=>if j=i then v' else vs j):=by
 have hxl:xs.length=es.length*4:=h.row.1;obtain rfl:n=es.length:=by
  rcases h.row.2 with⟨e1,_⟩|⟨g',cap',cu,e1,_⟩
  ·cases e1
  ·cases e1;rfl
 have k1:Kt 33 w w':=yG (h.nee i hi) hg (by decide);have r1:=k1.row h.row;obtain⟨cur,hE⟩:=(bz r1 rfl).2;have kt:Kt 9 w' (w'.setCell ⟨E,i*4+3,none⟩ v'):=iP _ hE (by decide);have gx:=VU xs (i*4+3) v' (by omega);refine⟨by rw[List.length_set];exact VT r1 _,fun j hj=>?_,fun j hj=>?_,fun a b g ha hb h1 h2=>?_⟩
 ·have hj':j<es.length:=by rw[List.length_set]at hj;exact hj
  obtain⟨c0,c1,c2,c3⟩:=h.cel j hj';simp only[gx]
  by_cases e:j=i
  ·subst e;simp only[List.getElem_set_self,if_true];rw[if_neg (by omega),if_neg (by omega),if_neg (by omega)];exact⟨c0,c1,c2,trivial⟩
  ·simp only[List.getElem_set_ne (fun h=>e h.symm:¬i=j)];rw[if_neg (by omega),if_neg (by omega),if_neg (by omega),if_neg (by omega),if_neg e];exact⟨c0,c1,c2,c3⟩
 ·have hj':j<es.length:=by rw[List.length_set]at hj;exact hj
  by_cases e:j=i
  ·subst e;simp only[List.getElem_set_self,if_true,List.length_append,List.map_append,List.length_cons,List.length_nil];exact kt.row ho
  ·simp only[List.getElem_set_ne (fun h=>e h.symm:¬i=j),if_neg e];refine kt.row (bP (h.nee j hj') fun g cur hgo hc=>hg.block g (aB hc) (fun e2=>e (h.apa j i g hj' hi hgo e2.symm)))
 ·rw[List.length_set]at ha hb;have fresh:∀k,k<es.length->¬k=i->(vs k).ownBlock=some g->v'.ownBlock=some g->False:=fun k hk hne e1 e2=>by
   rcases hat with e3|e3|⟨g2,e3,hge⟩
   ·rw[e3]at e2;exact hne (h.apa k i g hk hi e1 e2)
   ·rw[e3]at e2
    cases e2
    obtain⟨-,cc,hcc⟩:=bz (h.nee k hk) e1;exact absurd (aB hcc) (by omega)
   ·rw[e3]at e2
    cases e2
    obtain⟨-,cc,hcc⟩:=bz (h.nee k hk) e1;exact absurd (aB hcc) (by omega)
  by_cases ea:a=i
  ·by_cases eb:b=i
   ·rw[ea,eb]
   ·simp only[if_pos ea]at h1;simp only[if_neg eb]at h2;exact(fresh b hb eb h2 h1).elim
  ·by_cases eb:b=i
   ·simp only[if_neg ea]at h1;simp only[if_pos eb]at h2;exact(fresh a ha ea h1 h2).elim
   ·simp only[if_neg ea]at h1;simp only[if_neg eb]at h2;exact h.apa a b g ha hb h1 h2
end
open Go.RowKit Go.Maps Go.WideMaps Go.Joins
def dL(x:Tn)(k:Value):Array Value:=#[.int .i64 x.kd,.string ⟨x.ky.toArray⟩,.string ⟨x.tx.toArray⟩,.int .i64 x.nu,k,.int .i64 (x.pl:Nat)]
def nV(kv:Nat->Value)(ns:List Tn)(q:Nat):List Value:=match ns[q]? with|some x=>(dL x (kv q)).toList|none=>[]
def tu(y:ByteArray × Nat):List Value:=[.string y.1,.int .i64 (y.2:Nat)]
structure Nd(w0:World)(N c:Nat)(kv:Nat->Value)(ns:List Tn):Prop where
 cel:∀i (hi:i<ns.length),w0.cell? ⟨N,i*6,none⟩=some (.int .i64 ns[i].kd)/\w0.cell? ⟨N,i*6+1,none⟩=some (.string ⟨ns[i].ky.toArray⟩)/\w0.cell? ⟨N,i*6+2,none⟩=some (.string ⟨ns[i].tx.toArray⟩)/\w0.cell? ⟨N,i*6+3,none⟩=some (.int .i64 ns[i].nu)/\w0.cell? ⟨N,i*6+4,none⟩=some (kv i)/\w0.cell? ⟨N,i*6+5,none⟩=some (.int .i64 (ns[i].pl:Nat))
 kid:∀i (hi:i<ns.length),NuS w0 (kv i) ns[i].ks
 rng:∀i (hi:i<ns.length),∀q∈ns[i].ks,q<ns.length
 num:∀i (hi:i<ns.length),ns[i].ks.length<=1000000
 len:ns.length<=1000000
 pos:0<ns.length
 tex:∀i (hi:i<ns.length),ns[i].tx.length<2 ^ 60
structure Dm(w0:World)(T D Lb:Nat)(nv:Value)(kv:Nat->Value)(ns:List Tn)(d:Dr)(w:World)(vt ve vw:Value)(xs:List Value)(vs:Nat->Value):Prop where
 gb:w0.grownBy w none
 tre:w.heap[T]?=some (.cells #[nv,.slice (some ⟨Lb,0,none⟩) ns.length ns.length] 106 (0,0))
 dra:w.heap[D]?=some (.cells #[.pointer (some ⟨T,0,none⟩),.bool d.fm,vt,ve,vw] 62 (0,0))
 lok:LoB w D T Lb ns.length d.lk
 tab:w.ownsRow w0.heap.size 64 6 vt d.tb.length (d.tb.flatMap (nV kv ns))
 ent:EnB w0.heap.size w d.es ve xs vs
 wan:w.ownsRow w0.heap.size 109 2 vw d.wt.length (d.wt.flatMap tu)
 bD:w0.heap.size<=D
 bL:w0.heap.size<=Lb
section
variable {w0:World} {T D Lb:Nat} {nv:Value} {kv:Nat->Value} {ns:List Tn} {d:Dr} {w w':World} {vt ve vw:Value} {xs:List Value} {vs:Nat->Value}
theorem ad5(hg:w.grownBy w' none):Bx w w':=⟨bf hg,bf hg,bf hg⟩
theorem ad6{g o:Nat}{c:Array Value}{X:TypeId}{fz:Nat × Nat}(v:Value)(hX:w.heap[g]?=some (.cells c X fz))(h1:¬59=X)(h2:¬57=X)(h3:¬3=X):Bx w (w.setCell ⟨g,o,none⟩ v):=⟨iP v hX h1,iP v hX h2,iP v hX h3⟩
theorem Dm.grow(h:Dm w0 T D Lb nv kv ns d w vt ve vw xs vs)(hg:w.grownBy w' none):Dm w0 T D Lb nv kv ns d w' vt ve vw xs vs :=
 ⟨ah h.gb hg,(bf hg).blk h.tre,(bf hg).blk h.dra,h.lok.keep (bf hg) (ad5 hg),(bf hg).row h.tab,h.ent.keep (bf hg) (bf hg),(bf hg).row h.wan,h.bD,h.bL⟩
theorem Dm.look(h:Dm w0 T D Lb nv kv ns d w vt ve vw xs vs)(q:Nat)(hq:q<ns.length)(v:Value)(k:iT)(hv:LkV w D T v (some k)):Dm w0 T D Lb nv kv ns ⟨fun p=>if p=q then some k else d.lk p,d.fm,d.tb,d.es,d.wt⟩ (w.setCell ⟨Lb,q,none⟩ v) vt ve vw xs vs:=by
 obtain⟨cs,hc,-,-⟩:=h.lok;exact⟨mP h.gb (iM w Lb q v) h.bL,(iP v hc (by decide)).blk h.tre,(iP v hc (by decide)).blk h.dra,h.lok.set q hq v k hv,(iP v hc (by decide)).row h.tab,h.ent.keep (iP v hc (by decide)) (iP v hc (by decide)),(iP v hc (by decide)).row h.wan,h.bD,h.bL⟩
theorem Dm.fmt(h:Dm w0 T D Lb nv kv ns d w vt ve vw xs vs)(b:Bool):Dm w0 T D Lb nv kv ns ⟨d.lk,b,d.tb,d.es,d.wt⟩ (w.setCell ⟨D,1,none⟩ (.bool b)) vt ve vw xs vs:=by
 have hc:=h.dra;exact⟨mP h.gb (iM w D 1 _) h.bD,(iP _ hc (by decide)).blk h.tre,block_setCell (i:=1) hc _,h.lok.keep (iP _ hc (by decide)) (ad6 _ hc (by decide) (by decide) (by decide)),(iP _ hc (by decide)).row h.tab,h.ent.keep (iP _ hc (by decide)) (iP _ hc (by decide)),(iP _ hc (by decide)).row h.wan,h.bD,h.bL⟩
theorem Dm.cells(h:Dm w0 T D Lb nv kv ns d w vt ve vw xs vs):w.cell? ⟨T,0,none⟩=some nv/\w.cell? ⟨T,1,none⟩=some (.slice (some ⟨Lb,0,none⟩) ns.length ns.length)/\w.cell? ⟨D,0,none⟩=some (.pointer (some ⟨T,0,none⟩))/\w.cell? ⟨D,1,none⟩=some (.bool d.fm)/\w.cell? ⟨D,2,none⟩=some vt/\w.cell? ⟨D,3,none⟩=some ve/\w.cell? ⟨D,4,none⟩=some vw/\∀k,w.frozen? ⟨D,k,none⟩=false :=
 ⟨by rw[af h.tre];rfl,by rw[af h.tre];rfl,by rw[af h.dra];rfl,by rw[af h.dra];rfl,by rw[af h.dra];rfl,by rw[af h.dra];rfl,by rw[af h.dra];rfl,fun k=>Lib.frozen_of_heap h.dra k⟩
theorem Dm.lcell(h:Dm w0 T D Lb nv kv ns d w vt ve vw xs vs){q:Nat}(hq:q<ns.length):∃v,w.cell? ⟨Lb,q,none⟩=some v/\LkV w D T v (d.lk q)/\w.frozen? ⟨Lb,q,none⟩=false:=by
 obtain⟨cs,h1,h2,h3,-⟩:=h.lok;refine⟨cs[q]'(by omega),?_,h3 q (by omega),Lib.frozen_of_heap h1 q⟩;rw[af h1];exact Array.getElem?_eq_getElem (by omega)
theorem ad7(d:Dr)(ks:List Nat)(k:iT)(i:Nat)(hi:i<ks.length):keepD d (ks.take (i+1)) k=⟨fun p=>if p=ks[i] then some k else(keepD d (ks.take i) k).lk p,d.fm,d.tb,d.es,d.wt⟩:=by
 unfold keepD;congr 1;funext p;rw[List.take_succ_eq_append_getElem hi];simp only[List.mem_append,List.mem_singleton]
 by_cases h1:p=ks[i]
 ·rw[if_pos (Or.inr h1),if_pos h1]
 ·by_cases h2:p∈ks.take i
  ·rw[if_pos (Or.inl h2),if_neg h1,if_pos h2]
  ·rw[if_neg (by rintro(h|h);exact h2 h;exact h1 h),if_neg h1,if_neg h2]
theorem keep_any(h:Dm w0 T D Lb nv kv ns d w vt ve vw xs vs)(x:Tn)(k:Value)(hk:NuS w0 k x.ks)(hr:∀q∈x.ks,q<ns.length)(hl:x.ks.length<=1000000)(F:Nat)(cp:Array Value)(kp:iT)(hv:LkV w D T (.func (.func F) #[] cp) (some kp)) :
  Calls prog 22 #[.pointer (some ⟨T,0,none⟩),.agg (dL x k),.func (.func F) #[] cp] w fun e w'=>e=.returned (.tuple #[])/\Dm w0 T D Lb nv kv ns (keepD d x.ks kp) w' vt ve vw xs vs/\∀t,¬t=67->Kt t w w':=by
 obtain⟨o,c,rfl,HK⟩:=hk;have HKh:Hd (∀i (hi:i<x.ks.length),∃g,o=some ⟨g,0,none⟩/\w0.cell? ⟨g,i,none⟩=some (.int .i64 (x.ks[i]:Nat))):=HK;have HR:Hd (∀q∈x.ks,q<ns.length):=hr;have HV:Hd (LkV w D T (.func (.func F) #[] cp) (some kp)):=hv;have HD:Hd (Dm w0 T D Lb nv kv ns d w vt ve vw xs vs):=h;obtain⟨m,hm⟩:=zN (x.ks.length);have HM:Hd (x.ks.length=m):=hm;unfold dL;rw[hm]at hl ⊢;have hst:=fun(w:World) a m=>run_store prog w a (.func (.func F) #[] cp) m rfl
 clear HK hr hv h hm;go_enter func22,ntmps22;go_wp2;obtain⟨W,hW⟩:=zN (w.alloc (.cells #[.int .i64 x.kd,.string ⟨x.ky.toArray⟩,.string ⟨x.tx.toArray⟩,.int .i64 x.nu,.slice o m c,.int .i64 (x.pl:Nat)] 64));have HW:Hd (w.grownBy W none):=hW ▸ dw (ax w none) _
 try rw[hW]
 clear hW;go_loopw [11] (fun vi wr=>∃i:Nat,vi=.int .i64 (i:Nat)/\i<=m/\Dm w0 T D Lb nv kv ns (keepD d (x.ks.take i) kp) wr vt ve vw xs vs/\∀t,¬t=67->Kt t w wr) (fun vi _=>m-(intOf vi).toNat)
 case atStart =>
  refine⟨0,rfl,by omega,?_,fun t _=>bf HW.o⟩;have:keepD d (x.ks.take 0) kp=d:=by unfold keepD;simp
  rw[this];exact HD.o.grow HW.o
 case round =>
  obtain⟨i,rfl,hi,hd,hb⟩:=hrel;have uS:Hd (Dm w0 T D Lb nv kv ns (keepD d (x.ks.take i) kp) wr vt ve vw xs vs):=hd;have HB:Hd (∀t,¬t=67->Kt t w wr):=hb;obtain⟨-,c1,-,-,-,-,-,-⟩:=hd.cells
  by_cases hlt:i<m
  ·have hin:i<x.ks.length:=by rw[HM.o];exact hlt
   obtain⟨g,rfl,hc0⟩:=HKh.o i hin;have hc:=hd.gb.cell hc0 (by simp);have dN:=HR.o _ (List.getElem_mem hin);obtain⟨v,hlc,-,hfz⟩:=hd.lcell dN;have HN:Hd (keepD d (x.ks.take (i+1)) kp=⟨fun p=>if p=x.ks[i] then some kp else(keepD d (x.ks.take i) kp).lk p,d.fm,d.tb,d.es,d.wt⟩):=ad7 d x.ks kp i hin;have HL:Hd (Dm w0 T D Lb nv kv ns (keepD d (x.ks.take (i+1)) kp) (wr.setCell ⟨Lb,x.ks[i],none⟩ (.func (.func F) #[] cp)) vt ve vw xs vs):=by
    rw[HN.o];exact hd.look _ dN _ kp (HV.o.keep ⟨hb _ (by decide),hb _ (by decide),hb _ (by decide)⟩)
   have HB2:Hd (∀t,¬t=67->Kt t w (wr.setCell ⟨Lb,x.ks[i],none⟩ (.func (.func F) #[] cp))):=fun t ht=>by
    obtain⟨cs,hcs,-,-⟩:=hd.lok;exact(hb t ht).two (iP _ hcs ht)
   obtain⟨q,hq⟩:=zN (x.ks[i]);rw[hq]at hc hlc hfz HL HB2 dN;have hqi:((q:Int)<0)=False:=by simp
   clear hd hb HN hq;go_wp2;exact⟨⟨i+1,by go_num,by omega,HL.o,HB2.o⟩,by simp[intOf];omega⟩
  ·have him:i=m:=by omega
   have HF:Hd (Dm w0 T D Lb nv kv ns (keepD d x.ks kp) wr vt ve vw xs vs):=by
    have:=uS.o;rw[him,<-HM.o,List.take_length]at this;exact this
   clear hd hb;go_wp2;exact bodyPost_end (results_none rfl _ _ _) rfl ⟨rfl,HF.o,HB.o⟩
end
open Go.RowKit Go.Maps Go.WideMaps Go.Joins
theorem ad8:(prog.info? 67).map (fun i=>(i.zero,i.size,i.bytes))=some (some .nilFunc,1,8):=by kernel_rfl
theorem ad9(n:Nat):madeCells #[Value.nilFunc] n=Array.replicate n .nilFunc:=by
 unfold madeCells;apply Array.ext';simp;apply List.ext_getElem?;intro i;simp
 by_cases h:i<n
 ·simp[h,Nat.mod_one]
 ·simp[h]
theorem aea(n:Nat)(hn:n<=1048576)(W:World):(Instr.makeSlice 104 (.int .i64 (n:Int)) (.int .i64 (n:Int))).run prog W=.ok (.slice (some ⟨W.heap.size,0,none⟩) n n) (W.alloc (.cells (Array.replicate n .nilFunc) 67)):=by
 obtain⟨i0,hi0,hii⟩:=Option.map_eq_some_iff.1 ad8;simp only[Prod.mk.injEq]at hii;obtain⟨hz0,hz1,hzb⟩:=hii;have:=run_make W 104 67 i0 .nilFunc underlying104 hi0 hz0 .i64 .i64 (n:Int) (n:Int) (by omega) (Int.le_refl _) (by rw[hzb];omega) (by omega);rw[this,hz1];have e:((n:Int)).toNat=n:=by omega
 rw[e,Nat.mul_one];have e2:(Value.nilFunc).cells=#[.nilFunc]:=rfl;rw[e2,ad9]
theorem aeb(N c n:Nat)(w:World)(hn:n<=1048576) :
  Calls prog 21 #[.slice (some ⟨N,0,none⟩) n c] w fun e w'=>e=.returned (.pointer (some ⟨w.heap.size+1,0,none⟩))/\w'=(w.alloc (.cells (Array.replicate n .nilFunc) 67)).alloc (.cells #[.slice (some ⟨N,0,none⟩) n c,.slice (some ⟨w.heap.size,0,none⟩) n n] 106):=by
 have hmk:=aea n hn w;go_enter func21,ntmps21;go_wp2;go_ret;exact⟨rfl,rfl⟩
theorem aec(D:Nat)(w:World):Calls prog 26 #[.pointer (some ⟨D,0,none⟩)] w fun e w'=>e=.returned (.func (.func 49) #[] #[.pointer (some ⟨w.heap.size,0,none⟩)])/\w'=w.alloc (.cells #[.pointer (some ⟨D,0,none⟩)] 59):=by
 go_enter func26,ntmps26;go_wp2;go_ret;exact⟨rfl,rfl⟩
theorem aed(D:Nat)(e:Int)(w:World):Calls prog 50 #[.pointer (some ⟨D,0,none⟩),.int .i64 e] w fun e' w'=>e'=.returned (.func (.func 75) #[] #[.pointer (some ⟨w.heap.size,0,none⟩),.pointer (some ⟨w.heap.size+1,0,none⟩)])/\w'=(w.alloc (.cells #[.pointer (some ⟨D,0,none⟩)] 59)).alloc (.cells #[.int .i64 e] 3):=by
 go_enter func50,ntmps50;go_wp2;go_ret;exact⟨rfl,rfl⟩
theorem aee(D:Nat)(e:Int)(w:World):Calls prog 78 #[.pointer (some ⟨D,0,none⟩),.int .i64 e] w fun e' w'=>e'=.returned (.func (.func 118) #[] #[.pointer (some ⟨w.heap.size,0,none⟩),.pointer (some ⟨w.heap.size+1,0,none⟩)])/\w'=(w.alloc (.cells #[.pointer (some ⟨D,0,none⟩)] 59)).alloc (.cells #[.int .i64 e] 3):=by
 go_enter func78,ntmps78;go_wp2;go_ret;exact⟨rfl,rfl⟩
section
variable {w0:World} {T D Lb:Nat} {nv:Value} {kv:Nat->Value} {ns:List Tn} {d:Dr} {w w':World} {vt ve vw:Value} {xs:List Value} {vs:Nat->Value}
theorem aef(h:Dm w0 T D Lb nv kv ns d w vt ve vw xs vs)(x:Tn)(o:Option Addr)(m c:Nat) :
  Calls prog 25 #[.pointer (some ⟨D,0,none⟩),.agg (dL x (.slice o m c))] w fun e w'=>(¬x.kd=4->e=.returned (.int .i64 7)/\w.grownBy w' none)/\(x.kd=4->¬x.nu=1->e=.returned (.int .i64 3)/\w.grownBy w' none)/\(x.kd=4->x.nu=1->e=.returned (.int .i64 0)/\Dm w0 T D Lb nv kv ns ⟨d.lk,true,d.tb,d.es,d.wt⟩ w' vt ve vw xs vs):=by
 unfold dL;obtain⟨kd,ky,tx,nu,ks,pl⟩:=x;simp only[];obtain⟨W,hW⟩:=zN (w.alloc (.cells #[.int .i64 kd,.string ⟨ky.toArray⟩,.string ⟨tx.toArray⟩,.int .i64 nu,.slice o m c,.int .i64 (pl:Nat)] 64));have HG:Hd (w.grownBy W none):=hW ▸ dw (ax w none) _;have HD:Hd (Dm w0 T D Lb nv kv ns d W vt ve vw xs vs):=h.grow HG.o;have hB:W.heap[w.heap.size]?=some (.cells #[.int .i64 kd,.string ⟨ky.toArray⟩,.string ⟨tx.toArray⟩,.int .i64 nu,.slice o m c,.int .i64 (pl:Nat)] 64 (0,0)):=by rw[<-hW];exact heap_alloc_new _ _
 have c0:W.cell? ⟨w.heap.size,0,none⟩=some (.int .i64 kd):=by rw[af hB];rfl
 have c3:W.cell? ⟨w.heap.size,3,none⟩=some (.int .i64 nu):=by rw[af hB];rfl
 obtain⟨-,-,-,d1,-,-,-,hfz⟩:=HD.o.cells;have hf1:=hfz 1;clear hB hfz h
 by_cases h4:kd=4
 ·by_cases h1:nu=1
  ·have HF:Hd (Dm w0 T D Lb nv kv ns ⟨d.lk,true,d.tb,d.es,d.wt⟩ (W.setCell ⟨D,1,none⟩ (.bool true)) vt ve vw xs vs):=HD.o.fmt true;subst h4 h1;go_enter func25,ntmps25;go_wp2;go_ret;exact⟨fun h=>(h (by first|exact trivial|rfl)).elim,fun _ h=>(h (by first|exact trivial|rfl)).elim,fun _ _=>⟨rfl,HF.o⟩⟩
  ·have hb:(nu != 1)=true:=by simpa using h1
   subst h4;go_enter func25,ntmps25;go_wp2;go_ret;exact⟨fun h=>(h (by first|exact trivial|rfl)).elim,fun _ _=>⟨rfl,HG.o⟩,fun _ h=>absurd h h1⟩
 ·have hb:(kd != 4)=true:=by simpa using h4
  go_enter func25,ntmps25;go_wp2;go_ret;exact⟨fun _=>⟨rfl,HG.o⟩,fun h=>absurd h h4,fun h=>absurd h h4⟩
def Om(x:Tn)(ok:Bool)(a:Addr)(w:World)(e:Ending)(w':World):Prop:=(¬x.kd=3->e=.returned (.int .i64 7)/\w.grownBy w' none)/\(x.kd=3->ok=false->e=.returned (.int .i64 2)/\w.grownBy w' none)/\(x.kd=3->ok=true->e=.returned (.int .i64 0)/\∃w1,w.grownBy w1 none/\w'=w1.setCell a (.string ⟨x.tx.toArray⟩))
theorem Oo(x:Tn)(o:Option Addr)(m c F g k:Nat)(ok:Bool)(w:World)(eF:∀args w,(callFunc F args).run prog w=.ok (.enter F args) w)(CF:∀w',Calls prog F #[.string ⟨x.tx.toArray⟩] w' fun e w''=>e=.returned (.bool ok)/\w'.grownBy w'' none)(cs:Array Value)(t:TypeId)(hgb:w.heap[g]?=some (.cells cs t (0,0)))(v0:Value)(hk:cs[k]?=some v0) :
  Calls prog 77 #[.agg (dL x (.slice o m c)),.func (.func F) #[] #[],.pointer (some ⟨g,k,none⟩)] w (Om x ok ⟨g,k,none⟩ w):=by
 unfold dL;obtain⟨kd,ky,tx,nu,ks,pl⟩:=x;simp only[]at CF ⊢;have lU:Hd (∀w',Calls prog F #[.string ⟨tx.toArray⟩] w' fun e w''=>e=.returned (.bool ok)/\w'.grownBy w'' none):=CF;obtain⟨tB,Oq⟩:∃t:ByteArray,⟨tx.toArray⟩=t:=⟨_,rfl⟩;have IE:Hd ((⟨tx.toArray⟩:ByteArray)=tB):=Oq;rw[Oq]at lU ⊢;obtain⟨W,hW⟩:=zN (w.alloc (.cells #[.int .i64 kd,.string ⟨ky.toArray⟩,.string tB,.int .i64 nu,.slice o m c,.int .i64 (pl:Nat)] 64));have HG:Hd (w.grownBy W none):=hW ▸ dw (ax w none) _;have hB:W.heap[w.heap.size]?=some (.cells #[.int .i64 kd,.string ⟨ky.toArray⟩,.string tB,.int .i64 nu,.slice o m c,.int .i64 (pl:Nat)] 64 (0,0)):=by rw[<-hW];exact heap_alloc_new _ _
 have c0:W.cell? ⟨w.heap.size,0,none⟩=some (.int .i64 kd):=by rw[af hB];rfl
 have c2:W.cell? ⟨w.heap.size,2,none⟩=some (.string tB):=by rw[af hB];rfl
 have aH:Hd (W.heap[g]?=some (.cells cs t (0,0))):=(bf HG.o).blk hgb;clear hB CF Oq hgb
 by_cases h3:kd=3
 ·subst h3;go_enter func77,ntmps77;go_wp2_with (first|(refine(lU.o _).mono ?_));rintro e w2 ⟨rfl,hg2⟩;have c22:=hg2.cell c2 (by simp);have Ot:=(bf hg2).blk aH.o;have hc2:w2.cell? ⟨g,k,none⟩=some v0:=by rw[af Ot];exact hk
  have hf2:w2.frozen? ⟨g,k,none⟩=false:=Lib.frozen_of_heap Ot k;clear Ot;have HG2:Hd (w.grownBy w2 none):=ah HG.o hg2;clear hg2
  cases ok with
  | true =>
   go_wp2;go_ret;refine⟨fun h=>(h (by first|exact trivial|rfl)).elim,fun _ h=>(by cases h),fun _ _=>⟨rfl,w2,HG2.o,?_⟩⟩;rw[IE.o]
  | false =>
   go_wp2;go_ret;exact⟨fun h=>(h (by first|exact trivial|rfl)).elim,fun _ _=>⟨rfl,HG2.o⟩,fun _ h=>(by cases h)⟩
 ·have hb:(kd != 3)=true:=by simpa using h3
  go_enter func77,ntmps77;go_wp2;go_ret;exact⟨fun _=>⟨rfl,HG.o⟩,fun h=>absurd h h3,fun h=>absurd h h3⟩
theorem aeg(N c:Nat)(h:Dm w0 T D Lb (.slice (some ⟨N,0,none⟩) ns.length c) kv ns d w vt ve vw xs vs)(H:Nd w0 N c kv ns) :
  Calls prog 23 #[.pointer (some ⟨T,0,none⟩)] w fun e w'=>e=.returned (.agg (dL (ns[0]'H.pos) (kv 0)))/\w.grownBy w' none:=by
 obtain⟨c0,c1,c2,c3,c4,c5⟩:=H.cel 0 H.pos;obtain⟨o4,m4,hk4,-⟩:=H.kid 0 H.pos;obtain⟨x,hx⟩:=zN (ns[0]'H.pos);rw[hx]at c0 c1 c2 c3 c5 hk4 ⊢;rw[hk4]at c4 ⊢;obtain⟨kd,ky,tx,nu,ks,pl⟩:=x;unfold dL;simp only[]at c0 c1 c2 c3 c4 c5 ⊢;obtain⟨t0,-,-,-,-,-,-,-⟩:=h.cells;have hp:=H.pos;obtain⟨n,hn⟩:=zN (ns.length);rw[hn]at t0 hp;have HG:Hd (w0.grownBy w none):=h.gb;have HW:Hd (w.grownBy (w.alloc (.cells #[.int .i64 0,.string ⟨#[]⟩,.string ⟨#[]⟩,.int .i64 0,.slice none 0 0,.int .i64 0] 64)) none):=dw (ax w none) _;have qh:=ah HG.o HW.o;have d0:=qh.cell c0 (by simp);have d1:=qh.cell c1 (by simp);have d2:=qh.cell c2 (by simp);have d3:=qh.cell c3 (by simp);have d4:=qh.cell c4 (by simp);have d5:=qh.cell c5 (by simp);have tW:=HW.o.cell t0 (by simp);clear c0 c1 c2 c3 c4 c5 h H hx hk4 hn qh t0;have hlt:(0:Int)<(n:Int):=by omega
 go_enter func23,ntmps23;go_wp2;refine bodyPost_ret (results_cell_row rfl _ _ w.heap.size 64 #[.int .i64 kd,.string ⟨ky.toArray⟩,.string ⟨tx.toArray⟩,.int .i64 nu,.slice o4 ks.length m4,.int .i64 (pl:Nat)] (0,0) _ rfl ?_ underlying64 rfl (by kernel_rfl)) rfl ⟨rfl,dw (ax w none) _⟩;exact heap_alloc_new _ _
end
open Go.RowKit Go.Maps Go.WideMaps Go.Joins
def qi(w0:World)(T D Lb:Nat)(nv:Value)(kv:Nat->Value)(ns:List Tn)(r:Except Int Dr)(w:World)(e:Ending)(w':World):Prop :=
 (∀d',r=.ok d'->e=.returned (.int .i64 0)/\∃vt ve vw xs vs,Dm w0 T D Lb nv kv ns d' w' vt ve vw xs vs)/\(∀c,r=.error c->e=.returned (.int .i64 c)/\¬c=0/\w.grownBy w' none)
theorem xn{w0:World}{T D Lb:Nat}{nv:Value}{kv:Nat->Value}{ns:List Tn}{d':Dr}{w w':World}{vt ve vw:Value}{xs:List Value}{vs:Nat->Value}(h:Dm w0 T D Lb nv kv ns d' w' vt ve vw xs vs):qi w0 T D Lb nv kv ns (.ok d') w (.returned (.int .i64 0)) w' :=
 ⟨fun d e=>(by cases e;exact⟨rfl,_,_,_,_,_,h⟩),fun c e=>(by cases e)⟩
theorem mG{w0:World}{T D Lb:Nat}{nv:Value}{kv:Nat->Value}{ns:List Tn}{c:Int}{w w':World}(hc:¬c=0)(h:w.grownBy w' none):qi w0 T D Lb nv kv ns (.error c) w (.returned (.int .i64 c)) w' :=
 ⟨fun d e=>(by cases e),fun c' e=>(by cases e;exact⟨rfl,hc,h⟩)⟩
theorem jr{ky k:List UInt8}{KY:ByteArray}(h:(⟨ky.toArray⟩:ByteArray)=KY):(ky=k->(KY.toList == k)=true)/\(¬ky=k->(KY.toList == k)=false):=by
 subst h;have e:(⟨ky.toArray⟩:ByteArray).toList=ky:=by rw[ByteArray.toList_eq]
 rw[e];exact⟨fun h=>by rw[h];simp,fun h=>by simpa using h⟩
theorem Ou{w w':World}{a b bx:Nat}{va vb v0 v1 v2 v3 v4 v5:Value}(hg:w.grownBy w' none)(h:w.cell? ⟨a,0,none⟩=some va/\w.cell? ⟨b,0,none⟩=some vb/\w.cell? ⟨bx,0,none⟩=some v0/\w.cell? ⟨bx,1,none⟩=some v1/\w.cell? ⟨bx,2,none⟩=some v2/\w.cell? ⟨bx,3,none⟩=some v3/\w.cell? ⟨bx,4,none⟩=some v4/\w.cell? ⟨bx,5,none⟩=some v5):w'.cell? ⟨a,0,none⟩=some va/\w'.cell? ⟨b,0,none⟩=some vb/\w'.cell? ⟨bx,0,none⟩=some v0/\w'.cell? ⟨bx,1,none⟩=some v1/\w'.cell? ⟨bx,2,none⟩=some v2/\w'.cell? ⟨bx,3,none⟩=some v3/\w'.cell? ⟨bx,4,none⟩=some v4/\w'.cell? ⟨bx,5,none⟩=some v5 :=
 ⟨hg.cell h.1 (by simp),hg.cell h.2.1 (by simp),hg.cell h.2.2.1 (by simp),hg.cell h.2.2.2.1 (by simp),hg.cell h.2.2.2.2.1 (by simp),hg.cell h.2.2.2.2.2.1 (by simp),hg.cell h.2.2.2.2.2.2.1 (by simp),hg.cell h.2.2.2.2.2.2.2 (by simp)⟩
section
variable {w0:World} {T D Lb:Nat} {nv:Value} {kv:Nat->Value} {ns:List Tn} {d:Dr} {w w':World} {vt ve vw:Value} {xs:List Value} {vs:Nat->Value}
theorem aeh(h:Dm w0 T D Lb nv kv ns d w vt ve vw xs vs)(q:Nat)(x:Tn)(k:Value)(hk:NuS w0 k x.ks)(hr:∀q∈x.ks,q<ns.length)(hl:x.ks.length<=1000000)(a b:Nat)(ha:w.heap[a]?=some (.cells #[.pointer (some ⟨D,0,none⟩)] 59 (0,0)))(hb:w.heap[b]?=some (.cells #[.pointer (some ⟨T,0,none⟩)] 57 (0,0))) :
  Calls prog 24 #[.agg (dL x k),.pointer (some ⟨a,0,none⟩),.pointer (some ⟨b,0,none⟩)] w (qi w0 T D Lb nv kv ns (gJ d q x .root) w):=by
 have kF:Hd (NuS w0 k x.ks):=hk;obtain⟨o,c,hk0,-⟩:=hk;have HR:Hd (∀q∈x.ks,q<ns.length):=hr;obtain⟨kd,ky,tx,nu,ks,pl⟩:=x;obtain⟨KY,iC⟩:∃t:ByteArray,⟨ky.toArray⟩=t:=⟨_,rfl⟩;have eP:Hd ((⟨ky.toArray⟩:ByteArray)=KY):=iC;obtain⟨m,hm⟩:=zN (ks.length);have hk1:k=.slice o m c:=by rw[hk0];show Value.slice o ks.length c=_;rw[hm]
 obtain⟨bx,hbx⟩:=zN (w.heap.size);obtain⟨W,hW⟩:=zN (w.alloc (.cells #[.int .i64 kd,.string KY,.string ⟨tx.toArray⟩,.int .i64 nu,.slice o m c,.int .i64 (pl:Nat)] 64));have HG:Hd (w.grownBy W none):=hW ▸ dw (ax w none) _;have HD:Hd (Dm w0 T D Lb nv kv ns d W vt ve vw xs vs):=h.grow HG.o;have hB:W.heap[bx]?=some (.cells #[.int .i64 kd,.string KY,.string ⟨tx.toArray⟩,.int .i64 nu,.slice o m c,.int .i64 (pl:Nat)] 64 (0,0)):=by rw[<-hW,<-hbx];exact heap_alloc_new _ _
 have uT:=(bf HG.o).blk ha;have hbW:=(bf HG.o).blk hb;have kG:Hd (W.heap[bx]?=some (.cells #[.int .i64 kd,.string KY,.string ⟨tx.toArray⟩,.int .i64 nu,.slice o m c,.int .i64 (pl:Nat)] 64 (0,0))/\W.heap[a]?=some (.cells #[.pointer (some ⟨D,0,none⟩)] 59 (0,0))/\W.heap[b]?=some (.cells #[.pointer (some ⟨T,0,none⟩)] 57 (0,0))):=⟨hB,uT,hbW⟩;have c0:W.cell? ⟨bx,0,none⟩=some (.int .i64 kd):=by rw[af hB];rfl
 have c1:W.cell? ⟨bx,1,none⟩=some (.string KY):=by rw[af hB];rfl
 have c2:W.cell? ⟨bx,2,none⟩=some (.string ⟨tx.toArray⟩):=by rw[af hB];rfl
 have c3:W.cell? ⟨bx,3,none⟩=some (.int .i64 nu):=by rw[af hB];rfl
 have c4:W.cell? ⟨bx,4,none⟩=some (.slice o m c):=by rw[af hB];rfl
 have c5:W.cell? ⟨bx,5,none⟩=some (.int .i64 (pl:Nat)):=by rw[af hB];rfl
 have ca:W.cell? ⟨a,0,none⟩=some (.pointer (some ⟨D,0,none⟩)):=by rw[af uT];rfl
 have cb:W.cell? ⟨b,0,none⟩=some (.pointer (some ⟨T,0,none⟩)):=by rw[af hbW];rfl
 have HW:Hd (w.alloc (.cells #[.int .i64 kd,.string KY,.string ⟨tx.toArray⟩,.int .i64 nu,.slice o m c,.int .i64 (pl:Nat)] 64)=W/\w.heap.size=bx):=⟨hW,hbx⟩;rw[hk1]at kF ⊢;unfold dL gJ;simp only[]at kF HR hl ⊢;rw[iC];have CF:Hd (Calls prog 25 #[.pointer (some ⟨D,0,none⟩),.agg #[.int .i64 kd,.string KY,.string ⟨tx.toArray⟩,.int .i64 nu,.slice o m c,.int .i64 (pl:Nat)]] W fun e w'=>(¬kd=4->e=.returned (.int .i64 7)/\W.grownBy w' none)/\(kd=4->¬nu=1->e=.returned (.int .i64 3)/\W.grownBy w' none)/\(kd=4->nu=1->e=.returned (.int .i64 0)/\Dm w0 T D Lb nv kv ns ⟨d.lk,true,d.tb,d.es,d.wt⟩ w' vt ve vw xs vs)):=by
  have:=aef HD.o ⟨kd,ky,tx,nu,ks,pl⟩ o m c;unfold dL at this;simp only[]at this;rw[iC]at this;exact this
 clear h hr hk0 ha hb hB uT hbW hW hbx iC hm hk1
 by_cases e1:ky=jV
 ·have hb1:(KY.toList == [102,111,114,109,97,116])=true:=(jr eP.o).1 e1;rw[if_pos e1]
  by_cases g1:kd=4
  ·by_cases g2:nu=1
   ·rw[if_neg (by simpa using g1),if_neg (by simpa using g2)];have CG:Hd (Calls prog 25 #[.pointer (some ⟨D,0,none⟩),.agg #[.int .i64 kd,.string KY,.string ⟨tx.toArray⟩,.int .i64 nu,.slice o m c,.int .i64 (pl:Nat)]] W fun e w'=>e=.returned (.int .i64 0)/\Hd (Dm w0 T D Lb nv kv ns ⟨d.lk,true,d.tb,d.es,d.wt⟩ w' vt ve vw xs vs)):=CF.o.mono fun e w' h=>h.2.2 g1 g2
    clear e1 CF g1 g2;go_enter func24,ntmps24;go_upto_region 1 with fail
    try rw[HW.o.1]
    try rw[HW.o.2]
    go_wp2_with (go_at_call 25;refine CG.o.mono ?_);rintro e w2 ⟨rfl,h2⟩;go_wp2;go_ret;exact xn h2.o
   ·rw[if_neg (by simpa using g1),if_pos g2];have CG:Hd (Calls prog 25 #[.pointer (some ⟨D,0,none⟩),.agg #[.int .i64 kd,.string KY,.string ⟨tx.toArray⟩,.int .i64 nu,.slice o m c,.int .i64 (pl:Nat)]] W fun e w'=>e=.returned (.int .i64 3)/\Hd (W.grownBy w' none)):=CF.o.mono fun e w' h=>h.2.1 g1 g2
    clear e1 CF g1 g2;go_enter func24,ntmps24;go_upto_region 1 with fail
    try rw[HW.o.1]
    try rw[HW.o.2]
    go_wp2_with (go_at_call 25;refine CG.o.mono ?_);rintro e w2 ⟨rfl,h2⟩;go_wp2;go_ret;exact mG (by decide) (ah HG.o h2.o)
  ·rw[if_pos g1];have CG:Hd (Calls prog 25 #[.pointer (some ⟨D,0,none⟩),.agg #[.int .i64 kd,.string KY,.string ⟨tx.toArray⟩,.int .i64 nu,.slice o m c,.int .i64 (pl:Nat)]] W fun e w'=>e=.returned (.int .i64 7)/\Hd (W.grownBy w' none)):=CF.o.mono fun e w' h=>h.1 g1
   clear e1 CF g1;go_enter func24,ntmps24;go_upto_region 1 with fail
   try rw[HW.o.1]
   try rw[HW.o.2]
   go_wp2_with (go_at_call 25;refine CG.o.mono ?_);rintro e w2 ⟨rfl,h2⟩;go_wp2;go_ret;exact mG (by decide) (ah HG.o h2.o)
 ·have hb1:(KY.toList == [102,111,114,109,97,116])=false:=(jr eP.o).2 e1;rw[if_neg e1]
  by_cases e2:ky=jk
  ·have hb2:(KY.toList == [112,97,99,107,97,103,101])=true:=(jr eP.o).1 e2
   by_cases e3:kd=2
   ·have hb3:(kd == 2)=true:=by simpa using e3
    rw[if_pos ⟨e2,e3⟩];have iO:Hd (W.grownBy W.drew none):=aj (ax W none) 1;have CT:Hd (Calls prog 26 #[.pointer (some ⟨D,0,none⟩)] W.drew fun e w'=>∃A,e=.returned (.func (.func 49) #[] #[.pointer (some ⟨A,0,none⟩)])/\w'.heap[A]?=some (.cells #[.pointer (some ⟨D,0,none⟩)] 59 (0,0))/\W.drew.grownBy w' none):=(aec D W.drew).mono fun e w' ⟨a1,a2⟩=>⟨_,a1,by rw[a2];exact heap_alloc_new _ _,by rw[a2];exact dw (ax _ none) _⟩
    have CK:Hd (∀A w2,W.drew.grownBy w2 none->w2.heap[A]?=some (.cells #[.pointer (some ⟨D,0,none⟩)] 59 (0,0))->Calls prog 22 #[.pointer (some ⟨T,0,none⟩),.agg #[.int .i64 kd,.string KY,.string ⟨tx.toArray⟩,.int .i64 nu,.slice o m c,.int .i64 (pl:Nat)],.func (.func 49) #[] #[.pointer (some ⟨A,0,none⟩)]] w2 fun e w3=>e=.returned (.tuple #[])/\Hd (Dm w0 T D Lb nv kv ns (keepD d ks .tabs) w3 vt ve vw xs vs)/\w3.cell? ⟨a,0,none⟩=some (.pointer (some ⟨D,0,none⟩))/\w3.cell? ⟨b,0,none⟩=some (.pointer (some ⟨T,0,none⟩))/\w3.cell? ⟨bx,0,none⟩=some (.int .i64 kd)/\w3.cell? ⟨bx,1,none⟩=some (.string KY)/\w3.cell? ⟨bx,2,none⟩=some (.string ⟨tx.toArray⟩)/\w3.cell? ⟨bx,3,none⟩=some (.int .i64 nu)/\w3.cell? ⟨bx,4,none⟩=some (.slice o m c)/\w3.cell? ⟨bx,5,none⟩=some (.int .i64 (pl:Nat))):=fun A w2 hg hA=>by
     have hgW:=ah iO.o hg;have:=keep_any (HD.o.grow hgW) ⟨kd,ky,tx,nu,ks,pl⟩ (.slice o m c) kF.o HR.o hl 49 #[.pointer (some ⟨A,0,none⟩)] .tabs ⟨A,rfl,hA⟩;unfold dL at this;simp only[]at this;rw[eP.o]at this;refine this.mono fun e w3 ⟨a1,a2,a3⟩=>?_
     have y1:=(a3 _ (by decide)).blk ((bf hgW).blk kG.o.1);have y2:=(a3 _ (by decide)).blk ((bf hgW).blk kG.o.2.1);have y3:=(a3 _ (by decide)).blk ((bf hgW).blk kG.o.2.2);exact⟨a1,a2,by rw[af y2];rfl,by rw[af y3];rfl,by rw[af y1];rfl,by rw[af y1];rfl,by rw[af y1];rfl,by rw[af y1];rfl,by rw[af y1];rfl,by rw[af y1];rfl⟩
    clear e1 e2 e3 CF;go_enter func24,ntmps24;go_upto_region 1 with fail
    try rw[HW.o.1]
    try rw[HW.o.2]
    go_wp2
    go_region_held3 (fun u=>u.cell? ⟨a,0,none⟩=some (.pointer (some ⟨D,0,none⟩))/\u.cell? ⟨b,0,none⟩=some (.pointer (some ⟨T,0,none⟩))/\u.cell? ⟨bx,0,none⟩=some (.int .i64 kd)/\u.cell? ⟨bx,1,none⟩=some (.string KY)/\u.cell? ⟨bx,2,none⟩=some (.string ⟨tx.toArray⟩)/\u.cell? ⟨bx,3,none⟩=some (.int .i64 nu)/\u.cell? ⟨bx,4,none⟩=some (.slice o m c)/\u.cell? ⟨bx,5,none⟩=some (.int .i64 (pl:Nat))) ((first|assumption|exact Ou (by assumption) (by assumption)|go_keep)) (first|(go_at_call 26;refine CT.o.mono ?_;rintro e w6 ⟨A,rfl,Ef,dK⟩)|(go_at_call 22;refine(CK.o _ _ dK Ef).mono ?_;rintro e w7 ⟨rfl,hall,hcl⟩))
    go_wp2;go_ret;exact xn hall.o
   ·have hb3:(kd == 2)=false:=by simpa using e3
    rw[if_neg (fun h=>e3 h.2)];have aA:Hd (w.grownBy W none):=HG.o;clear e1 e2 e3 CF;go_enter func24,ntmps24;go_upto_region 1 with fail
    try rw[HW.o.1]
    try rw[HW.o.2]
    go_wp2;go_ret;exact mG (by decide) aA.o
  ·have hb2:(KY.toList == [112,97,99,107,97,103,101])=false:=(jr eP.o).2 e2;rw[if_neg (fun h=>e2 h.1)];have aA:Hd (w.grownBy W none):=HG.o;clear e1 e2 CF;go_enter func24,ntmps24;go_upto_region 1 with fail
   try rw[HW.o.1]
   try rw[HW.o.2]
   go_wp2;go_ret;exact mG (by decide) aA.o
end
end Go.Proofs.YtnnbgjaphfhibaaGreatDoor
