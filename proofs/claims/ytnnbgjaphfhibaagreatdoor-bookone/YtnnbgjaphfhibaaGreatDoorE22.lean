import Derived.Test.YtnnbgjaphfhibaaGreatDoorE14
import Derived.Test.YtnnbgjaphfhibaaGreatDoorE11
set_option linter.all false
set_option maxRecDepth 100000
set_option maxHeartbeats 0
open Go.Proofs.Tryz
namespace Go.Proofs.YtnnbgjaphfhibaaGreatDoor
open Go.RowKit Go.Maps Go.WideMaps Go.Joins
def pG(n:Nat)(own:List Nat):List Value:=(List.range n).map fun i=>.bool (decide (i∈own))
theorem IB(n:Nat)(own:List Nat):(pG n own).length=n:=by simp[pG]
theorem aea(n:Nat)(own:List Nat)(h:¬n∈own):pG (n+1) own=pG n own++[.bool false]:=by
 unfold pG;rw[List.range_succ,List.map_append,List.map_singleton,decide_eq_false h]
theorem N8(n:Nat)(own:List Nat)(t:Nat)(ht:t<n):(pG n own)[t]?=some (.bool (decide (t∈own))):=by
 unfold pG;rw[List.getElem?_map,List.getElem?_range ht];rfl
theorem aeb(n:Nat)(own:List Nat)(t:Nat)(ht:t<n):(pG n own).set t (.bool true)=pG n (t :: own):=by
 apply List.ext_getElem?;intro i
 by_cases hi:i<n
 ·rw[N8 n (t :: own) i hi]
  by_cases he:i=t
  ·subst he;rw[List.getElem?_set_self (by rw[IB];exact hi)];simp
  ·rw[List.getElem?_set_ne (fun e=>he e.symm),N8 n own i hi];simp[he]
 ·rw[List.getElem?_eq_none (by rw[List.length_set,IB];omega),List.getElem?_eq_none (by rw[IB];omega)]
structure DtD(w:World)(B P:Nat)(ns:List Tn)(m:Nat)(own:List Nat)(LV OV:Value)(xs:List Value)(ks:Nat->Value):Prop where
 row:w.ownsRow B 45 6 LV ns.length xs
 cel:∀i (hi:i<ns.length),xs[i*6]?=some (.int .i64 ns[i].kd)/\xs[i*6+1]?=some (.string ⟨ns[i].ky.toArray⟩)/\xs[i*6+2]?=some (.string ⟨ns[i].tx.toArray⟩)/\xs[i*6+3]?=some (.int .i64 ns[i].nu)/\xs[i*6+4]?=some (ks i)/\xs[i*6+5]?=some (.int .i64 (ns[i].pl:Nat))
 kid:∀i (hi:i<ns.length),w.ownsRow B 3 1 (ks i) ns[i].ks.length (ns[i].ks.map fun q=>.int .i64 (q:Nat))
 apart:∀i j g,i<ns.length->j<ns.length->(ks i).ownBlock=some g->(ks j).ownBlock=some g->i=j
 owr:w.ownsRow B 4 1 OV m (pG m own)
 far:∀i,i<ns.length->(ks i).ownBlock≠some P
 hP:P<w.heap.size
structure DFr(B P:Nat)(w w':World):Prop where
 bel:Below B w w'
 oth:∀(b:Nat) (cs:Array Value) (t:TypeId) (fz:Nat × Nat),w.heap[b]?=some (.cells cs t fz)->¬t=74->¬t=45->¬t=3->¬t=4->w'.heap[b]?=w.heap[b]?
 pro:w'.heap[P]?=w.heap[P]?
section
variable {w w':World} {B P:Nat} {ns:List Tn} {m:Nat} {own:List Nat} {LV OV:Value} {xs:List Value} {ks:Nat->Value}
theorem DFr.two{w1 w2:World}(h:DFr B P w w1)(h':DFr B P w1 w2):DFr B P w w2 :=
 ⟨h.bel.trans h'.bel,fun b cs t fz hb h1 h2 h3 h4=>by
  have e1:=h.oth b cs t fz hb h1 h2 h3 h4;exact(h'.oth b cs t fz (e1.trans hb) h1 h2 h3 h4).trans e1,h'.pro.trans h.pro⟩
theorem DFr.refl(w:World):DFr B P w w:=⟨⟨rfl,rfl,rfl,Nat.le_refl _,fun _ _=>rfl⟩,fun _ _ _ _ _ _ _ _ _=>rfl,rfl⟩
theorem DFr.gb(hg:w.grownBy w' none)(hB:B<=w.heap.size)(hP:P<w.heap.size):DFr B P w w' :=
 ⟨⟨hg.os,hg.tape,hg.output,hg.size,fun k hk=>hg.block k (by omega) (by simp)⟩,fun b cs t fz hb _ _ _ _=>hg.block b (aB hb) (by simp),hg.block P hP (by simp)⟩
theorem DFr.row{t:TypeId}{g:Nat}{cur:Array Value}{fz:Nat × Nat}(hg:w.grownBy w' (some g))(hB:B<=w.heap.size)(hP:P<w.heap.size)(hgB:B<=g)(hgP:¬P=g)(hb:w.heap[g]?=some (.cells cur t fz))(ht:t=74\/t=45\/t=3\/t=4):DFr B P w w' :=
 ⟨⟨hg.os,hg.tape,hg.output,hg.size,fun k hk=>hg.block k (by omega) (by simp;omega)⟩,fun b cs t' fz' hb' h1 h2 h3 h4=>hg.block b (aB hb') (by
  simp only[ne_eq,Option.some.injEq];refine aO hb' hb ?_
  rcases ht with rfl|rfl|rfl|rfl
  ·exact h1
  ·exact h2
  ·exact h3
  ·exact h4),hg.block P hP (by simpa using hgP)⟩
theorem DFr.size(h:DFr B P w w'):w.heap.size<=w'.heap.size:=h.bel.size
theorem DtD.keeps(h:DtD w B P ns m own LV OV xs ks)(hsz:w.heap.size<=w'.heap.size)(hk:∀(b:Nat) (cs:Array Value) (t:TypeId) (fz:Nat × Nat),w.heap[b]?=some (.cells cs t fz)->(t=45\/t=3\/t=4)->w'.heap[b]?=w.heap[b]?):DtD w' B P ns m own LV OV xs ks :=
 ⟨bZ h.row fun g cur _ hc=>hk _ _ _ _ hc (Or.inl rfl),h.cel,fun i hi=>bZ (h.kid i hi) fun g cur _ hc=>hk _ _ _ _ hc (Or.inr (Or.inl rfl)),h.apart,bZ h.owr fun g cur _ hc=>hk _ _ _ _ hc (Or.inr (Or.inr rfl)),h.far,Nat.lt_of_lt_of_le h.hP hsz⟩
theorem DtD.gb(h:DtD w B P ns m own LV OV xs ks)(hg:w.grownBy w' none):DtD w' B P ns m own LV OV xs ks:=h.keeps hg.size fun b cs t fz hb _=>hg.block b (aB hb) (by simp)
theorem DtD.keepR{R:Nat}{s:ByteArray}{L O:Value}{now de i:Nat}{er:Int}{p:Nat}(h:DtD w B P ns m own LV OV xs ks)(hR:Dd w R s L O now de i er p)(hg:w.grownBy w' (some R)):DtD w' B P ns m own LV OV xs ks :=
 h.keeps hg.size fun b cs t fz hb ht=>hg.block b (aB hb) (by
  simp only[ne_eq,Option.some.injEq];refine aO hb hR ?_
  rcases ht with rfl|rfl|rfl<;>decide)
theorem Ds.dd{R:Nat}{s:ByteArray}{L O:Value}{now de:Nat}{q:Rs Nat}(h:Ds w R s L O now de q):∃i er p,Dd w R s L O now de i er p:=by
 match q,h with
 | .ok i,h=>exact⟨_,_,_,h.2⟩
 | .error (c,p),⟨_,j,_,h3⟩=>exact⟨_,_,_,h3⟩
theorem Ds.other{R g:Nat}{s:ByteArray}{L O:Value}{now de:Nat}{q:Rs Nat}(h:Ds w R s L O now de q)(hg:w.grownBy w' (some g))(hne:¬R=g):Ds w' R s L O now de q:=by
 have key:∀i er p,Dd w R s L O now de i er p->Dd w' R s L O now de i er p:=fun i er p hd=>(hg.block R (aB hd) (by simpa using hne)).trans hd
 match q,h with
 | .ok i,h=>exact⟨h.1,key _ _ _ h.2⟩
 | .error (c,p),⟨h1,j,h2,h3⟩=>exact⟨h1,j,h2,key _ _ _ h3⟩
theorem DtD.node{N c:Nat}(h:DtD w B P ns m own (.slice (some ⟨N,0,none⟩) ns.length c) OV xs ks)(i:Nat)(hi:i<ns.length):w.cell? ⟨N,i*6,none⟩=some (.int .i64 ns[i].kd)/\w.cell? ⟨N,i*6+1,none⟩=some (.string ⟨ns[i].ky.toArray⟩)/\w.cell? ⟨N,i*6+2,none⟩=some (.string ⟨ns[i].tx.toArray⟩)/\w.cell? ⟨N,i*6+3,none⟩=some (.int .i64 ns[i].nu)/\w.cell? ⟨N,i*6+4,none⟩=some (ks i)/\w.cell? ⟨N,i*6+5,none⟩=some (.int .i64 (ns[i].pl:Nat))/\∀k,w.frozen? ⟨N,k,none⟩=false:=by
 obtain⟨h0,h1,h2,h3,h4,h5⟩:=h.cel i hi;have key:∀j u,xs[j]?=some u->w.cell? ⟨N,j,none⟩=some u:=fun j u hu=>by
  have:=h.row.cells (g:=N) rfl j u hu;rw[nC]at this;exact this
 obtain⟨cur,hc⟩:=(bH h.row rfl).2;exact⟨key _ _ h0,key _ _ h1,key _ _ h2,key _ _ h3,key _ _ h4,key _ _ h5,fun k=>Lib.frozen_of_heap hc k⟩
theorem DtD.flagAt{O oc:Nat}(h:DtD w B P ns m own LV (.slice (some ⟨O,0,none⟩) m oc) xs ks)(t:Nat)(ht:t<m):w.cell? ⟨O,t,none⟩=some (.bool (decide (t∈own)))/\w.frozen? ⟨O,t,none⟩=false:=by
 obtain⟨cur,hc⟩:=(bH h.owr rfl).2;refine⟨?_,Lib.frozen_of_heap hc t⟩;have:=h.owr.cells (g:=O) rfl t _ (N8 m own t ht);rw[nC]at this;exact this
theorem DtD.push(h:DtD w B P ns m own LV OV xs ks){w1:World}{LV':Value}{L:Nat}(x:Tn)(hx:x.ks=[])(hL:ns.length+1=L)
  (ho:w1.ownsRow B 45 6 LV' L (xs++[.int .i64 x.kd,.string ⟨x.ky.toArray⟩,.string ⟨x.tx.toArray⟩,.int .i64 x.nu,.slice none 0 0,.int .i64 (x.pl:Nat)])) (hg:w.grownBy w1 LV.ownBlock) :
  DtD w1 B P (ns++[x]) m own LV' OV (xs++[.int .i64 x.kd,.string ⟨x.ky.toArray⟩,.string ⟨x.tx.toArray⟩,.int .i64 x.nu,.slice none 0 0,.int .i64 (x.pl:Nat)]) (fun i=>if i=ns.length then .slice none 0 0 else ks i):=by
 have hne:∀(b:Nat) (cs:Array Value) (t:TypeId) (fz:Nat × Nat),w.heap[b]?=some (.cells cs t fz)->¬t=45->w1.heap[b]?=w.heap[b]?:=fun b cs t fz hb ht=>hg.block b (aB hb) (fun e=>by
  obtain⟨cc,hcc⟩:=(bH h.row e.symm).2;exact aO hb hcc ht rfl)
 have hxl:=h.row.1;have hlen:(ns++[x]).length=L:=by simp[hL]
 refine⟨?_,?_,?_,?_,bZ h.owr fun g cur _ hc=>hne _ _ _ _ hc (by decide),?_,Nat.lt_of_lt_of_le h.hP hg.size⟩
 ·rw[hlen];exact ho
 ·intro i hi;rw[hlen]at hi
  by_cases he:i=ns.length
  ·subst he;simp only[List.getElem_append_right (Nat.le_refl _),Nat.sub_self,List.getElem_cons_zero];rw[<-hxl];refine⟨?_,?_,?_,?_,?_,?_⟩
   ·rw[List.getElem?_append_right (by omega),Nat.sub_self];rfl
   ·rw[List.getElem?_append_right (by omega),show xs.length+1-xs.length=1 by omega];rfl
   ·rw[List.getElem?_append_right (by omega),show xs.length+2-xs.length=2 by omega];rfl
   ·rw[List.getElem?_append_right (by omega),show xs.length+3-xs.length=3 by omega];rfl
   ·rw[List.getElem?_append_right (by omega),show xs.length+4-xs.length=4 by omega];simp
   ·rw[List.getElem?_append_right (by omega),show xs.length+5-xs.length=5 by omega];rfl
  ·have hlt:i<ns.length:=by omega
   obtain⟨h0,h1,h2,h3,h4,h5⟩:=h.cel i hlt;simp only[List.getElem_append_left hlt,if_neg he];refine⟨?_,?_,?_,?_,?_,?_⟩
   all_goals (rw[List.getElem?_append_left (by omega)];assumption)
 ·intro i hi;rw[hlen]at hi
  by_cases he:i=ns.length
  ·subst he;simp only[List.getElem_append_right (Nat.le_refl _),Nat.sub_self,List.getElem_cons_zero,hx,if_true];exact⟨rfl,Or.inl ⟨rfl,rfl⟩⟩
  ·have hlt:i<ns.length:=by omega
   simp only[List.getElem_append_left hlt,if_neg he];exact bZ (h.kid i hlt) fun g' cur' _ hc=>hne _ _ _ _ hc (by decide)
 ·intro i j g' hi hj h1 h2;rw[hlen]at hi hj
  by_cases hei:i=ns.length
  ·rw[if_pos hei]at h1;cases h1
  ·by_cases hej:j=ns.length
   ·rw[if_pos hej]at h2;cases h2
   ·rw[if_neg hei]at h1;rw[if_neg hej]at h2;exact h.apart i j g' (by omega) (by omega) h1 h2
 ·intro i hi;rw[hlen]at hi
  by_cases hei:i=ns.length
  ·simp only[if_pos hei];exact fun e=>by cases e
  ·simp only[if_neg hei];exact h.far i (by omega)
theorem DtD.flag(h:DtD w B P ns m own LV OV xs ks){w1:World}{OV':Value}{L:Nat}(hL:m+1=L)(hm:¬m∈own)
  (ho:w1.ownsRow B 4 1 OV' L (pG m own++[.bool false])) (hg:w.grownBy w1 OV.ownBlock):DtD w1 B P ns L own LV OV' xs ks:=by
 have hne:∀(b:Nat) (cs:Array Value) (t:TypeId) (fz:Nat × Nat),w.heap[b]?=some (.cells cs t fz)->¬t=4->w1.heap[b]?=w.heap[b]?:=fun b cs t fz hb ht=>hg.block b (aB hb) (fun e=>by
  obtain⟨cc,hcc⟩:=(bH h.owr e.symm).2;exact aO hb hcc ht rfl)
 refine⟨bZ h.row fun g cur _ hc=>hne _ _ _ _ hc (by decide),h.cel,fun i hi=>bZ (h.kid i hi) fun g cur _ hc=>hne _ _ _ _ hc (by decide),h.apart,?_,h.far,Nat.lt_of_lt_of_le h.hP hg.size⟩;rw[<-hL,aea m own hm,hL];exact ho
theorem DtD.kidOwn(h:DtD w B P ns m own LV OV xs ks){i:Nat}(hi:i<ns.length){g:Nat}(hg:(ks i).ownBlock=some g):∃cur,w.heap[g]?=some (.cells cur 3 (0,0)):=(bH (h.kid i hi) hg).2
theorem DtD.kidp{N c:Nat}(h:DtD w B P ns m own (.slice (some ⟨N,0,none⟩) ns.length c) OV xs ks){w1:World}{g cap L:Nat}(p:Nat)(hp:p<ns.length)(q:Nat)(hL:ns[p].ks.length+1=L)
  (ho:w1.ownsRow B 3 1 (.slice (some ⟨g,0,none⟩) L cap) L ((ns[p].ks.map fun q=>.int .i64 (q:Nat))++[.int .i64 (q:Nat)])) (hg:w.grownBy w1 (ks p).ownBlock) (hat:(ks p).ownBlock=some g\/w.heap.size<=g) :
  DtD (w1.setCell ⟨N,p*6+4,none⟩ (.slice (some ⟨g,0,none⟩) L cap)) B P (ns.set p { ns[p] with ks:=ns[p].ks++[q] }) m own (.slice (some ⟨N,0,none⟩) ns.length c) OV (xs.set (p*6+4) (.slice (some ⟨g,0,none⟩) L cap)) (fun i=>if i=p then .slice (some ⟨g,0,none⟩) L cap else ks i):=by
 obtain⟨cur,hN⟩:=(bH h.row (g:=N) rfl).2;have yQ:∀(b:Nat) (cs:Array Value) (t:TypeId) (fz:Nat × Nat),w.heap[b]?=some (.cells cs t fz)->¬t=3->w1.heap[b]?=w.heap[b]?:=fun b cs t fz hb ht=>hg.block b (aB hb) (fun e=>by
  obtain⟨cc,hcc⟩:=h.kidOwn hp e.symm;exact aO hb hcc ht rfl)
 have hN1:=yQ _ _ _ _ hN (by decide);have hxl:=h.row.1;have hlen:(ns.set p { ns[p] with ks:=ns[p].ks++[q] }).length=ns.length:=by simp
 have hPw:=h.hP;have hs:∀(b:Nat) (cs:Array Value) (t:TypeId) (fz:Nat × Nat),w1.heap[b]?=some (.cells cs t fz)->¬t=45->(w1.setCell ⟨N,p*6+4,none⟩ (.slice (some ⟨g,0,none⟩) L cap)).heap[b]?=w1.heap[b]?:=fun b cs t fz hb ht=>heap_setCell_other _ _ _ _ (aO hb (hN1.trans hN) ht)
 have fresh:∀k,k<ns.length->¬k=p->(ks k).ownBlock=some g->False:=fun k hk hne e=>by
  rcases hat with e2|e2
  ·exact hne (h.apart k p g hk hp e e2)
  ·obtain⟨cc,hcc⟩:=h.kidOwn hk e;have:=aB hcc;omega
 refine⟨?_,?_,?_,?_,?_,?_,by have:=hg.size;simp[World.setCell];omega⟩
 ·rw[hlen];have r1:=bZ h.row fun g' cur' hh hc=>yQ _ _ _ _ hc (by decide)
  refine⟨by rw[List.length_set];exact r1.1,?_⟩
  rcases r1.2 with⟨e1,_⟩|⟨g',cap',cu,e1,hb,hgg,hn,hm,hs,ht⟩
  ·cases e1
  ·cases e1
   refine Or.inr ⟨N,c,cu.setIfInBounds (p*6+4) _,rfl,hb,block_setCell hgg _,hn,hm,by simpa using hs,?_⟩;rw[Array.toList_setIfInBounds,List.take_set,ht]
 ·intro i hi;rw[hlen]at hi;obtain⟨h0,h1,h2,h3,h4,h5⟩:=h.cel i hi;have keep:∀j,j<xs.length->¬j=p*6+4->(xs.set (p*6+4) (.slice (some ⟨g,0,none⟩) L cap))[j]?=xs[j]?:=fun j hj hne=>List.getElem?_set_ne (fun e=>hne e.symm)
  by_cases he:i=p
  ·subst he;simp only[List.getElem_set_self,if_true];refine⟨(keep _ (by omega) (by omega)).trans h0,(keep _ (by omega) (by omega)).trans h1,(keep _ (by omega) (by omega)).trans h2,(keep _ (by omega) (by omega)).trans h3,List.getElem?_set_self (by omega),(keep _ (by omega) (by omega)).trans h5⟩
  ·have hpi:¬p=i:=fun e=>he e.symm
   simp only[List.getElem_set_ne hpi,if_neg he];refine⟨(keep _ (by omega) (by omega)).trans h0,(keep _ (by omega) (by omega)).trans h1,(keep _ (by omega) (by omega)).trans h2,(keep _ (by omega) (by omega)).trans h3,(keep _ (by omega) (by omega)).trans h4,(keep _ (by omega) (by omega)).trans h5⟩
 ·intro i hi;rw[hlen]at hi
  by_cases he:i=p
  ·subst he;simp only[List.getElem_set_self,if_true];rw[List.map_append,List.length_append,List.length_singleton,hL];exact bZ ho fun g' cur' _ hc=>hs g' _ _ _ hc (by decide)
  ·have hpi:¬p=i:=fun e=>he e.symm
   simp only[List.getElem_set_ne hpi,if_neg he];refine bZ (h.kid i hi) fun g' cur' hgo hc=>?_
   have e1:=hg.block g' (aB hc) (fun e=>he (h.apart i p g' hi hp hgo e.symm));exact(hs g' _ _ _ (e1.trans hc) (by decide)).trans e1
 ·intro i j g' hi hj h1 h2;rw[hlen]at hi hj
  by_cases hei:i=p
  ·by_cases hej:j=p
   ·rw[hei,hej]
   ·rw[if_pos hei]at h1;rw[if_neg hej]at h2
    cases h1
    exact(fresh j hj hej h2).elim
  ·by_cases hej:j=p
   ·rw[if_pos hej]at h2;rw[if_neg hei]at h1
    cases h2
    exact(fresh i hi hei h1).elim
   ·rw[if_neg hei]at h1;rw[if_neg hej]at h2;exact h.apart i j g' hi hj h1 h2
 ·refine bZ h.owr fun g' cur' _ hc=>?_
  have e1:=yQ _ _ _ _ hc (by decide);exact(hs g' _ _ _ (e1.trans hc) (by decide)).trans e1
 ·intro i hi;rw[hlen]at hi
  by_cases hei:i=p
  ·simp only[if_pos hei];intro e;have e':=Option.some.inj (show some g=some P from e)
   rcases hat with e2|e2
   ·exact h.far p hp (e' ▸ e2)
   ·omega
  ·simp only[if_neg hei];exact h.far i hi
theorem DtD.mark{O oc:Nat}(h:DtD w B P ns m own LV (.slice (some ⟨O,0,none⟩) m oc) xs ks)(t:Nat)(ht:t<m):DtD (w.setCell ⟨O,t,none⟩ (.bool true)) B P ns m (t :: own) LV (.slice (some ⟨O,0,none⟩) m oc) xs ks:=by
 obtain⟨cur,hO⟩:=(bH h.owr (g:=O) rfl).2;have hs:∀(b:Nat) (cs:Array Value) (t':TypeId) (fz:Nat × Nat),w.heap[b]?=some (.cells cs t' fz)->¬t'=4->(w.setCell ⟨O,t,none⟩ (.bool true)).heap[b]?=w.heap[b]?:=fun b cs t' fz hb ht'=>heap_setCell_other _ _ _ _ (aO hb hO ht')
 refine⟨bZ h.row fun g cur _ hc=>hs _ _ _ _ hc (by decide),h.cel,fun i hi=>bZ (h.kid i hi) fun g cur _ hc=>hs _ _ _ _ hc (by decide),h.apart,?_,h.far,by have:=h.hP;simpa [World.setCell] using this⟩;refine⟨by rw[IB];simp,?_⟩
 rcases h.owr.2 with⟨e1,_⟩|⟨g',cap',cu,e1,hb,hgg,hn,hm,hs',ht'⟩
 ·cases e1
 ·cases e1
  refine Or.inr ⟨O,oc,cu.setIfInBounds t (.bool true),rfl,hb,block_setCell hgg _,hn,hm,by simpa using hs',?_⟩;rw[Array.toList_setIfInBounds,List.take_set,ht',aeb m own t ht]
theorem DtD.far2(h:DtD w B P ns m own LV OV xs ks){P':Nat}(hP:P'<w.heap.size)(hf:∀i,i<ns.length->(ks i).ownBlock≠some P'):DtD w B P' ns m own LV OV xs ks:=⟨h.row,h.cel,h.kid,h.apart,h.owr,hf,hP⟩
end
theorem DFr.app{w w':World}{B P:Nat}{t:TypeId}{sz n:Nat}{V:Value}{ys:List Value}(ho:w.ownsRow B t sz V n ys)(hg:w.grownBy w' V.ownBlock)(hB:B<=w.heap.size)(hP:P<w.heap.size)(hVP:V.ownBlock≠some P)(ht:t=74\/t=45\/t=3\/t=4):DFr B P w w':=by
 cases hb:V.ownBlock with
 | none=>rw[hb]at hg;exact DFr.gb hg hB hP
 | some q =>
  rw[hb]at hg hVP;obtain⟨hq,cc,hcc⟩:=bH ho hb;exact DFr.row hg hB hP hq (fun e=>hVP (by rw[e])) hcc ht
theorem Ds.app{w w':World}{B R:Nat}{t:TypeId}{sz n:Nat}{V:Value}{ys:List Value}{s:ByteArray}{L O:Value}{now de:Nat}{q:Rs Nat}(h:Ds w R s L O now de q)(ho:w.ownsRow B t sz V n ys)(hg:w.grownBy w' V.ownBlock)(ht:¬t=74):Ds w' R s L O now de q:=by
 cases hb:V.ownBlock with
 | none=>rw[hb]at hg;exact h.grow hg
 | some g =>
  rw[hb]at hg;obtain⟨hq,cc,hcc⟩:=bH ho hb;obtain⟨i,er,p,hd⟩:=h.dd;exact h.other hg (aO hd hcc (fun e=>ht e.symm))
section
variable {w:World} {R:Nat} {s:ByteArray} {L O:Value} {now de:Nat} {q:Rs Nat}
theorem Ds.setL(h:Ds w R s L O now de q)(v:Value):Ds (w.setCell ⟨R,2,none⟩ v) R s v O now de q:=by
 match q,h with
 | .ok i,h=>exact⟨h.1,h.2.setL v⟩
 | .error (c,p),⟨h1,j,h2,h3⟩=>exact⟨h1,j,h2,h3.setL v⟩
theorem Ds.setO(h:Ds w R s L O now de q)(v:Value):Ds (w.setCell ⟨R,3,none⟩ v) R s L v now de q:=by
 match q,h with
 | .ok i,h=>exact⟨h.1,h.2.setO v⟩
 | .error (c,p),⟨h1,j,h2,h3⟩=>exact⟨h1,j,h2,h3.setO v⟩
theorem Ds.setN(h:Ds w R s L O now de q)(m:Nat):Ds (w.setCell ⟨R,4,none⟩ (.int .i64 (m:Nat))) R s L O m de q:=by
 match q,h with
 | .ok i,h=>exact⟨h.1,h.2.setN m⟩
 | .error (c,p),⟨h1,j,h2,h3⟩=>exact⟨h1,j,h2,h3.setN m⟩
theorem Ds.setD(h:Ds w R s L O now de q)(m:Nat):Ds (w.setCell ⟨R,7,none⟩ (.int .i64 (m:Nat))) R s L O now m q:=by
 match q,h with
 | .ok i,h=>exact⟨h.1,h.2.setD m⟩
 | .error (c,p),⟨h1,j,h2,h3⟩=>exact⟨h1,j,h2,h3.setD m⟩
end
def Dt(w:World)(B P R:Nat)(s:ByteArray)(now de:Nat)(q:Rs Nat)(ns:List Tn)(own:List Nat):Prop:=B<=R/\¬P=R/\∃N c O oc xs ks,¬P=N/\¬P=O/\DtD w B P ns ns.length own (.slice (some ⟨N,0,none⟩) ns.length c) (.slice (some ⟨O,0,none⟩) ns.length oc) xs ks/\Ds w R s (.slice (some ⟨N,0,none⟩) ns.length c) (.slice (some ⟨O,0,none⟩) ns.length oc) now de q
open Go.RowKit Go.Maps Go.WideMaps Go.Joins
def gI(ns:List Tn)(t:Nat)(k:List UInt8):Int:=match ah ns t k with|some q=>(q:Int)|none=>-1
theorem IC{α:Type}(p:α->Bool):∀(l:List α) (i:Nat) (hi:i<l.length),(∀j (hj:j<l.length),j<i->p l[j]=false)->p l[i]=true->l.find? p=some l[i]
 | x :: l,0,_,_,h=>by simp[show p x=true from h]
 | x :: l,i+1,hi,ha,h=>by
  have h0:p x=false:=ha 0 (by simp) (by omega);rw[List.find?_cons,h0];exact IC p l i (by simpa using hi) (fun j hj hji=>ha (j+1) (by simpa using hj) (by omega)) h
theorem Wq{α:Type}(p:α->Bool):∀(l:List α),(∀j (hj:j<l.length),p l[j]=false)->l.find? p=none
 | [],_=>rfl
 | x :: l,h=>by
  have h0:p x=false:=h 0 (by simp);rw[List.find?_cons,h0];exact Wq p l fun j hj=>h (j+1) (by simpa using hj)
theorem IE(w:World)(B P:Nat)(ns:List Tn)(m:Nat)(own:List Nat)(N c:Nat)(OV:Value)(xs:List Value)(ks:Nat->Value)(t:Nat)(k:List UInt8)(h:DtD w B P ns m own (.slice (some ⟨N,0,none⟩) ns.length c) OV xs ks)(W:WF ns own)(ht:t<ns.length)(hn:ns.length<=1000000) :
  Calls prog 14 #[.slice (some ⟨N,0,none⟩) ns.length c,.int .i64 (t:Nat),.string ⟨k.toArray⟩] w fun e w'=>e=.returned (.int .i64 (gI ns t k))/\w'=w:=by
 obtain⟨-,-,-,-,e4,-,-⟩:=h.node t ht;have hrow:=h.kid t ht;obtain⟨o,cp,hv⟩:=mG hrow;rw[hv]at e4 hrow;have hks:af ns t=ns[t].ks:=by unfold af;rw[List.getElem?_eq_getElem ht]
 have hlen:ns[t].ks.length<=1000000:=by have:=W.len t;rw[hks]at this;omega
 have vM:Hd (gI ns t k=match (ns[t].ks.find? (iQ ns k)) with|some q=>(q:Int)|none=>-1):=by
  show _=_;unfold gI;rw[qZ,hks]
 have HC:Hd (∀i (hi:i<ns[t].ks.length),∃g,o=some ⟨g,0,none⟩/\w.cell? ⟨g,i,none⟩=some (.int .i64 (ns[t].ks[i]:Nat))):=fun i hi=>by
  rcases hrow.2 with⟨e1,e2⟩|⟨g,cap,cur,e1,_⟩
  ·omega
  ·injection e1 with e1 _ _
   refine⟨g,e1,?_⟩;have:=hrow.cells (g:=g) (by rw[e1];rfl) i (.int .i64 (ns[t].ks[i]:Nat)) (by rw[List.getElem?_map,List.getElem?_eq_getElem hi];rfl);rw[nC]at this;exact this
 have HL:=ae (fun i (hi:i<ns[t].ks.length)=>W.lt t _ (by rw[hks];exact List.getElem_mem hi));have HN:Hd (∀q (hq:q<ns.length),w.cell? ⟨N,q*6+1,none⟩=some (.string ⟨ns[q].ky.toArray⟩)/\iQ ns k q=decide (ns[q].ky=k)):=fun q hq=>⟨(h.node q hq).2.1,by unfold iQ;rw[List.getElem?_eq_getElem hq]⟩
 obtain⟨K,hK⟩:=zN (ns[t].ks);rw[hK]at vM HC HL hlen e4;obtain⟨r,hr⟩:=zN (gI ns t k);rw[hr]at vM ⊢;obtain⟨L,hL⟩:=zN (ns.length);have kQ:=ae hL;obtain⟨M,hM⟩:=zN (K.length);have nI:=ae hM;rw[hL]at ht hn ⊢;rw[hM]at hlen e4;clear hrow hv hks h W hK hr hL hM;go_enter func14,ntmps14;go_wp2;go_loopw [7] (fun vi wr=>∃i:Nat,vi=.int .i64 (i:Nat)/\i<=M/\(∀j (hj:j<K.length),j<i->iQ ns k K[j]=false)/\w=wr) (fun vi _=>M-(intOf vi).toNat)
 case atStart=>exact⟨0,rfl,by omega,fun j hj h=>absurd h (by omega),rfl⟩
 case round =>
  obtain⟨i,rfl,hi,hpre,rfl⟩:=hrel;have N9:=ae hpre;clear hpre
  by_cases hlt:i<M
  ·have hlt':i<K.length:=by rw[nI.o];exact hlt
   obtain⟨g,hg,cg⟩:=HC.o i hlt';have hq:=HL.o i hlt';have hkb:=HN.o K[i] hq;obtain⟨q,hqe⟩:=zN (K[i]);have ng:=ae hqe;rw[kQ.o]at hq;rw[hqe]at cg hq;have hq':q<ns.length:=by rw[kQ.o];exact hq
   have HKB:=ae (HN.o q hq');obtain⟨y,hy⟩:=zN ((ns[q]'hq').ky);rw[hy]at HKB;have cy:=HKB.o.1;have eP:=ae HKB.o.2;subst hg;clear hkb hqe hy HKB
   by_cases hyk:y=k
   ·have hse:(y == k)=true:=by simpa using hyk
    have HRR:Hd (r=(q:Int)):=by
     show r=_;rw[vM.o,IC (iQ ns k) K i (by rw[nI.o];exact hlt) N9.o (by rw[ng.o,eP.o,decide_eq_true hyk]),ng.o]
    clear hyk;go_wp2;go_ret;exact⟨dB HRR.o.symm,rfl⟩
   ·have hse:(y == k)=false:=by simpa using hyk
    have HP2:Hd (∀j (hj:j<K.length),j<i+1->iQ ns k K[j]=false):=fun j hj hji=>by
     by_cases hj':j<i
     ·exact N9.o j hj hj'
     ·have e:j=i:=by omega
      subst e;rw[ng.o,eP.o,decide_eq_false hyk]
    clear hyk;go_wp2;refine⟨⟨i+1,by go_num,by omega,HP2.o,by first|trivial|rfl⟩,?_⟩;simp[intOf];omega
  ·have ajz:M<=i:=by omega
   have HRR:Hd (r=-1):=by
    show r=_;rw[vM.o,Wq (iQ ns k) K fun j hj=>N9.o j hj (by rw[nI.o]at hj;omega)]
   go_wp2;go_ret;exact⟨dB HRR.o.symm,rfl⟩
open Go.RowKit Go.Maps Go.WideMaps Go.Joins
theorem Ws:(prog.info? 45).map (fun i=>(i.zero,i.size,i.bytes))=some (some (.agg #[.int .i64 0,.string ⟨#[]⟩,.string ⟨#[]⟩,.int .i64 0,.slice none 0 0,.int .i64 0]),6,80):=by kernel_rfl
theorem Wu:(prog.info? 4).map (fun i=>(i.zero,i.size,i.bytes))=some (some (.bool false),1,1):=by kernel_rfl
theorem Wv:∀u∈([.bool false]:List Value),u.oneCell'=true:=by
 intro u hu;simp only[List.mem_cons,List.not_mem_nil,or_false]at hu
 rcases hu with rfl;rfl
def IG(x:Tn):List Value:=[.int .i64 x.kd,.string ⟨x.ky.toArray⟩,.string ⟨x.tx.toArray⟩,.int .i64 x.nu,.slice none 0 0,.int .i64 (x.pl:Nat)]
section
variable {w1 w3:World} {B P R:Nat} {s:ByteArray} {now de:Nat} {q:Rs Nat} {ns:List Tn} {m:Nat} {own:List Nat} {LV OV:Value} {xs:List Value} {ks:Nat->Value}
theorem Wx{g cap:Nat}{o:Obj}(x:Tn)(hx:x.ks=[])(h:DtD w1 B P ns m own LV OV xs ks)(hR:Ds w1 R s LV OV now de q)(jH:B<=R)(pI:¬P=R)(hPL:LV.ownBlock≠some P)
  (ho:w3.ownsRow B 45 6 (.slice (some ⟨g,0,none⟩) (ns.length+1) cap) (ns.length+1) (xs++IG x)) (hg:(w1.drew.alloc o).grownBy w3 LV.ownBlock) (hat:LV.ownBlock=some g\/g=(w1.drew.alloc o).heap.size) :
  ∃xs' ks',DtD (w3.setCell ⟨R,2,none⟩ (.slice (some ⟨g,0,none⟩) (ns.length+1) cap)) B P (ns++[x]) m own (.slice (some ⟨g,0,none⟩) (ns.length+1) cap) OV xs' ks'/\Ds (w3.setCell ⟨R,2,none⟩ (.slice (some ⟨g,0,none⟩) (ns.length+1) cap)) R s (.slice (some ⟨g,0,none⟩) (ns.length+1) cap) OV now de q/\DFr B P w1 (w3.setCell ⟨R,2,none⟩ (.slice (some ⟨g,0,none⟩) (ns.length+1) cap))/\¬P=g:=by
 have g0:w1.grownBy (w1.drew.alloc o) none:=by
  have:=World.grownBy_alloc w1.drew o none;exact⟨this.os,this.tape,this.output,this.size,this.block⟩
 obtain⟨w2,hw2⟩:=zN (w1.drew.alloc o);rw[hw2]at g0 hg hat;obtain⟨i,er,p,hd⟩:=hR.dd;have hB1:=Nat.le_of_lt (Nat.lt_of_le_of_lt jH (aB hd));have h2:=h.gb g0;have hR2:=hR.grow g0;have h3:=h2.push (L:=ns.length+1) x hx rfl ho hg;have vN:=hR2.app h2.row hg (by decide);obtain⟨i3,er3,p3,hd3⟩:=vN.dd;have hB2:=Nat.le_trans hB1 g0.size;refine⟨_,_,h3.keepR hd3 (iL w3 R 2 _),vN.setL _,((DFr.gb g0 hB1 h.hP).two (DFr.app h2.row hg hB2 h2.hP hPL (Or.inr (Or.inl rfl)))).two (DFr.row (iL w3 R 2 _) (Nat.le_trans hB2 hg.size) h3.hP jH pI hd3 (Or.inl rfl)),?_⟩;intro e
 rcases hat with e1|e1
 ·exact hPL (by rw[e1,e])
 ·have:=h2.hP;omega
theorem Wy{g cap:Nat}{o:Obj}(h:DtD w1 B P ns m own LV OV xs ks)(hR:Ds w1 R s LV OV now de q)(jH:B<=R)(pI:¬P=R)(Ej:OV.ownBlock≠some P)(hm:¬m∈own)
  (ho:w3.ownsRow B 4 1 (.slice (some ⟨g,0,none⟩) (m+1) cap) (m+1) (pG m own++[.bool false])) (hg:(w1.alloc o).grownBy w3 OV.ownBlock) (hat:OV.ownBlock=some g\/g=(w1.alloc o).heap.size) :
  DtD (w3.setCell ⟨R,3,none⟩ (.slice (some ⟨g,0,none⟩) (m+1) cap)) B P ns (m+1) own LV (.slice (some ⟨g,0,none⟩) (m+1) cap) xs ks/\Ds (w3.setCell ⟨R,3,none⟩ (.slice (some ⟨g,0,none⟩) (m+1) cap)) R s LV (.slice (some ⟨g,0,none⟩) (m+1) cap) now de q/\DFr B P w1 (w3.setCell ⟨R,3,none⟩ (.slice (some ⟨g,0,none⟩) (m+1) cap))/\¬P=g:=by
 have g0:=World.grownBy_alloc w1 o none;obtain⟨w2,hw2⟩:=zN (w1.alloc o);rw[hw2]at g0 hg hat;obtain⟨i,er,p,hd⟩:=hR.dd;have hB1:=Nat.le_of_lt (Nat.lt_of_le_of_lt jH (aB hd));have h2:=h.gb g0;have hR2:=hR.grow g0;have h3:=h2.flag (L:=m+1) rfl hm ho hg;have vN:=hR2.app h2.owr hg (by decide);obtain⟨i3,er3,p3,hd3⟩:=vN.dd;have hB2:=Nat.le_trans hB1 g0.size;refine⟨h3.keepR hd3 (iL w3 R 3 _),vN.setO _,((DFr.gb g0 hB1 h.hP).two (DFr.app h2.owr hg hB2 h2.hP Ej (Or.inr (Or.inr (Or.inr rfl))))).two (DFr.row (iL w3 R 3 _) (Nat.le_trans hB2 hg.size) h3.hP jH pI hd3 (Or.inl rfl)),?_⟩;intro e
 rcases hat with e1|e1
 ·exact Ej (by rw[e1,e])
 ·have:=h2.hP;omega
theorem aec{N c g cap M:Nat}{o:Obj}{x:Tn}(up:Nat)(hup:up<ns.length)(hpl:up<(ns++[x]).length)(h:DtD w1 B P (ns++[x]) m own (.slice (some ⟨N,0,none⟩) (ns++[x]).length c) OV xs ks)(hR:Ds w1 R s (.slice (some ⟨N,0,none⟩) (ns++[x]).length c) OV now de q)(jH:B<=R)(II:¬P=N)(hM:((ns++[x])[up]'hpl).ks.length=M)
  (ho:w3.ownsRow B 3 1 (.slice (some ⟨g,0,none⟩) (M+1) cap) (M+1) ((((ns++[x])[up]'hpl).ks.map fun q=>Value.int .i64 (q:Nat))++[.int .i64 (ns.length:Nat)])) (hg:(w1.drew.alloc o).grownBy w3 (ks up).ownBlock) (hat:(ks up).ownBlock=some g\/g=(w1.drew.alloc o).heap.size) :
  ∃xs' ks',DtD (w3.setCell ⟨N,up*6+4,none⟩ (.slice (some ⟨g,0,none⟩) (M+1) cap)) B P (addN ns up x) m own (.slice (some ⟨N,0,none⟩) (addN ns up x).length c) OV xs' ks'/\Ds (w3.setCell ⟨N,up*6+4,none⟩ (.slice (some ⟨g,0,none⟩) (M+1) cap)) R s (.slice (some ⟨N,0,none⟩) (addN ns up x).length c) OV now de q/\DFr B P w1 (w3.setCell ⟨N,up*6+4,none⟩ (.slice (some ⟨g,0,none⟩) (M+1) cap)):=by
 have g0:w1.grownBy (w1.drew.alloc o) none:=by
  have:=World.grownBy_alloc w1.drew o none;exact⟨this.os,this.tape,this.output,this.size,this.block⟩
 obtain⟨w2,hw2⟩:=zN (w1.drew.alloc o);rw[hw2]at g0 hg hat;obtain⟨i,er,p,hd⟩:=hR.dd;have hB1:=Nat.le_of_lt (Nat.lt_of_le_of_lt jH (aB hd));have h2:=h.gb g0;have hR2:=hR.grow g0;have hB2:=Nat.le_trans hB1 g0.size;have h3:=h2.kidp (L:=M+1) up hpl ns.length (by rw[hM]) ho hg (by rcases hat with e|e;exact Or.inl e;exact Or.inr (by omega));rw[UL ns up x hup hpl]at h3;have elen:(ns++[x]).length=(addN ns up x).length:=by rw[bY];simp
 rw[elen]at h3;have vN:=hR2.app (h2.kid up hpl) hg (by decide);obtain⟨cN,lV⟩:=(bH h2.row (g:=N) rfl).2;have hN3:w3.heap[N]?=some (.cells cN 45 (0,0)):=(hg.block N (aB lV) (fun e=>by
  obtain⟨cc,hcc⟩:=h2.kidOwn hpl e.symm;exact aO lV hcc (by decide) rfl)).trans lV
 obtain⟨i3,er3,p3,hd3⟩:=vN.dd;rw[elen]at vN;refine⟨_,_,h3,vN.other (iL w3 N _ _) (aO hd3 hN3 (by decide)),?_⟩;exact((DFr.gb g0 hB1 h.hP).two (DFr.app (h2.kid up hpl) hg hB2 h2.hP (h2.far up hpl) (Or.inr (Or.inr (Or.inl rfl))))).two (DFr.row (iL w3 N _ _) (Nat.le_trans hB2 hg.size) (Nat.lt_of_lt_of_le h2.hP hg.size) (bH h2.row (g:=N) rfl).1 II hN3 (Or.inr (Or.inl rfl)))
end
open Go.RowKit Go.Maps Go.WideMaps Go.Joins
theorem WB(x:Tn):∀u∈IG x,u.oneCell'=true:=UJ x
def WC(B P R:Nat)(s:ByteArray)(now de:Nat)(q:Rs Nat)(ns:List Tn)(own:List Nat)(ns':List Tn)(w:World)(e:Ending)(w':World):Prop:=e=.returned (.int .i64 (ns.length:Nat))/\Dt w' B P R s now de q ns' own/\DFr B P w w'
theorem vO(B P R:Nat)(s:ByteArray)(now de:Nat)(q:Rs Nat)(ns:List Tn)(own:List Nat)(up:Nat)(kd nu:Int)(ky tx:List UInt8)(pl:Nat)(w:World)(h:Dt w B P R s now de q ns own)(W:WF ns own)(hup:up<ns.length)(hsz:ns.length<=1000000) :
  Calls prog 29 #[.pointer (some ⟨R,0,none⟩),.int .i64 (up:Nat),.agg #[.int .i64 kd,.string ⟨ky.toArray⟩,.string ⟨tx.toArray⟩,.int .i64 nu,.slice none 0 0,.int .i64 (pl:Nat)]] w (WC B P R s now de q ns own (addN ns up ⟨kd,ky,tx,nu,[],pl⟩) w):=by
 obtain⟨jH,pI,N,c,O,oc,xs,ks,II,Ej,hD,hS⟩:=h;obtain⟨i0,hi0,hii⟩:=Option.map_eq_some_iff.1 Ws;simp only[Prod.mk.injEq]at hii;obtain⟨hz0,hz1,hzb⟩:=hii;obtain⟨j0,hj0,hjj⟩:=Option.map_eq_some_iff.1 MS;simp only[Prod.mk.injEq]at hjj;obtain⟨hy0,hy1,hyb⟩:=hjj;obtain⟨b0,hb0,hbb⟩:=Option.map_eq_some_iff.1 Wu;simp only[Prod.mk.injEq]at hbb;obtain⟨hx0,hx1,hxb⟩:=hbb;have hone:=WB ⟨kd,ky,tx,nu,[],pl⟩;have AY:Hd (IG ⟨kd,ky,tx,nu,[],pl⟩=[.int .i64 kd,.string ⟨ky.toArray⟩,.string ⟨tx.toArray⟩,.int .i64 nu,.slice none 0 0,.int .i64 (pl:Nat)]):=rfl;rw[AY.o]at hone;have DC:=UK ns.length;have Oa:=Wv;obtain⟨K,jd⟩:=zN (w.heap.size);have fA:w.grownBy (w.alloc (.cells #[.int .i64 kd,.string ⟨ky.toArray⟩,.string ⟨tx.toArray⟩,.int .i64 nu,.slice none 0 0,.int .i64 (pl:Nat)] 45)) none:=World.grownBy_alloc w _ none;have bV:=heap_alloc_new w (.cells #[.int .i64 kd,.string ⟨ky.toArray⟩,.string ⟨tx.toArray⟩,.int .i64 nu,.slice none 0 0,.int .i64 (pl:Nat)] 45)
 have qw:(w.alloc (.cells #[.int .i64 kd,.string ⟨ky.toArray⟩,.string ⟨tx.toArray⟩,.int .i64 nu,.slice none 0 0,.int .i64 (pl:Nat)] 45)).heap.size=K+1:=by rw[World.size_alloc,jd]
 rw[jd]at bV;have hD1:=hD.gb fA;have hS1:=hS.grow fA;obtain⟨ii,er,pp,hdd⟩:=hS.dd;have hBs:=Nat.le_of_lt (Nat.lt_of_le_of_lt jH (aB hdd));have jF:=ae (DFr.gb fA hBs hD.hP);obtain⟨w1,hw1⟩:=zN (w.alloc (.cells #[.int .i64 kd,.string ⟨ky.toArray⟩,.string ⟨tx.toArray⟩,.int .i64 nu,.slice none 0 0,.int .i64 (pl:Nat)] 45));rw[hw1]at bV qw hD1 jF hS1;have hrow:=hD1.row;obtain⟨cN,lV⟩:=(bH hD1.row (g:=N) rfl).2;obtain⟨ii1,er1,pp1,xM⟩:=hS1.dd;have vg:Hd (some R≠(Value.slice (some ⟨N,0,none⟩) ns.length c).ownBlock):=by
  show some R≠some N;simp only[ne_eq,Option.some.injEq];exact aO xM lV (by decide)
 obtain⟨-,-,d2,-,-,-,-,-,dfz⟩:=xM.cells;have dA:(w1.alloc (.cells #[.int .i64 kd,.string ⟨ky.toArray⟩,.string ⟨tx.toArray⟩,.int .i64 nu,.slice none 0 0,.int .i64 (pl:Nat)] 45)).cell? ⟨R,2,none⟩=some (.slice (some ⟨N,0,none⟩) ns.length c):=(World.grownBy_alloc w1 _ none).cell d2 (by simp);have DD:=ae xM;have k0:w1.cell? ⟨K,0,none⟩=some (.int .i64 kd):=by rw[ag bV];rfl
 have k1:w1.cell? ⟨K,1,none⟩=some (.string ⟨ky.toArray⟩):=by rw[ag bV];rfl
 have k2:w1.cell? ⟨K,2,none⟩=some (.string ⟨tx.toArray⟩):=by rw[ag bV];rfl
 have k3:w1.cell? ⟨K,3,none⟩=some (.int .i64 nu):=by rw[ag bV];rfl
 have k4:w1.cell? ⟨K,4,none⟩=some (.slice none 0 0):=by rw[ag bV];rfl
 have k5:w1.cell? ⟨K,5,none⟩=some (.int .i64 (pl:Nat)):=by rw[ag bV];rfl
 have HD1:=ae hD1;have fC:=ae hS1;have HW:=ae W;have dY:Hd ((w1.drew.alloc (.cells #[.int .i64 kd,.string ⟨ky.toArray⟩,.string ⟨tx.toArray⟩,.int .i64 nu,.slice none 0 0,.int .i64 (pl:Nat)] 45)).heap[K+1]?=some (.cells #[.int .i64 kd,.string ⟨ky.toArray⟩,.string ⟨tx.toArray⟩,.int .i64 nu,.slice none 0 0,.int .i64 (pl:Nat)] 45 (0,0))):=by
  have:=heap_alloc_new w1.drew (.cells #[.int .i64 kd,.string ⟨ky.toArray⟩,.string ⟨tx.toArray⟩,.int .i64 nu,.slice none 0 0,.int .i64 (pl:Nat)] 45);rw[show w1.drew.heap.size=K+1 from qw]at this;exact this
 have HP:=ae hup;have xN:Hd (¬P=R/\¬P=N/\¬P=O):=⟨pI,II,Ej⟩;have aed:Hd (¬ns.length∈own):=fun hm=>by have:=W.own _ hm;omega
 clear hD fA bV hD1 lV W hS hS1 hdd xM dfz pI II Ej;go_enter func29,ntmps29;go_upto_region 2 with fail
 go_cut [] from 13 (fun wx=>∃(g cap:Nat) (xs':List Value) (ks':Nat->Value),DtD wx B P (ns++[⟨kd,ky,tx,nu,[],pl⟩]) ns.length own (.slice (some ⟨g,0,none⟩) (ns.length+1) cap) (.slice (some ⟨O,0,none⟩) ns.length oc) xs' ks'/\Ds wx R s (.slice (some ⟨g,0,none⟩) (ns.length+1) cap) (.slice (some ⟨O,0,none⟩) ns.length oc) now de q/\DFr B P w1 wx/\¬P=g)
 case first =>
  go_region_law (refine step_append_lies _ (by rfl) _ _ _ (by rfl) B 45 i0 _ 6 80 underlying39 hi0 hz0 hz1 hzb (by rfl) (by decide) (.slice (some ⟨N,0,none⟩) ns.length c) ns.length xs (by rfl) (hrow.drew.alloc _) ⟨K+1,0,none⟩ 1 1 [.int .i64 kd,.string ⟨ky.toArray⟩,.string ⟨tx.toArray⟩,.int .i64 nu,.slice none 0 0,.int .i64 (pl:Nat)] (by rfl) (by rfl) (World.news_of_block dY.o) hone (by omega) (by unfold maxLen;omega) (by omega) (by simp;omega) _ rfl ?_;intro g cap w3 hown3 hgrow hat hlt3;have hc3:=nH d2 hgrow vg.o;have o8:w3.frozen? ⟨R,2,none⟩=false:=rH DD.o hgrow vg.o)
  all_goals (
   go_wp2_with fail;go_meet;obtain⟨xs',ks',q1,q2,q3,q4⟩:=Wx ⟨kd,ky,tx,nu,[],pl⟩ rfl HD1.o fC.o jH xN.o.1 (fun e=>xN.o.2.1 (Option.some.inj (show some N=some P from e)).symm) hown3 hgrow hat;exact⟨g,cap,xs',ks',q1,q2,q3,q4⟩)
 case rest =>
  obtain⟨N1,c1,xs1,ks1,hD2,hS2,hF2,Em⟩:=hcut;obtain⟨ii2,er2,pp2,uq⟩:=hS2.dd;obtain⟨-,-,e2,e3,-,-,-,-,efz⟩:=uq.cells;have WE:=hD2.owr;obtain⟨cO,WG⟩:=(bH hD2.owr (g:=O) rfl).2;have xO:Hd (some R≠(Value.slice (some ⟨O,0,none⟩) ns.length oc).ownBlock):=by
   show some R≠some O;simp only[ne_eq,Option.some.injEq];exact aO uq WG (by decide)
  have xP:=ae uq;have HD2:=ae hD2;have HS2:=ae hS2;have HF2:=ae hF2;have IJ:=ae Em;have hBc:=Nat.le_of_lt (Nat.lt_of_le_of_lt jH (aB uq));have aee:(0:Int)<=(up:Int):=by omega
  clear hD2 hS2 hF2 Em uq WG efz;go_upto_region 5 with(first|(at_builtin;refine wpList_append_lies _ rfl _ _ 72 rfl B 4 b0 _ 1 1 underlying72 hb0 hx0 hx1 hxb rfl (by decide) (.slice (some ⟨O,0,none⟩) ns.length oc) ns.length (pG ns.length own) rfl (WE.alloc _) ⟨wc.heap.size,0,none⟩ 1 1 [.bool false] rfl rfl (World.news_of_block (heap_alloc_new _ _)) Oa (by omega) (by unfold maxLen;omega) (by omega) (by simp;omega) _ rfl ?_;intro g cap w3 hown3 hgrow hat hlt3;have hc3:=hgrow.cell ((World.grownBy_alloc wc _ none).cell e3 (by simp)) xO.o;have o8:=Lib.frozen_of_heap ((hgrow.block R (by have:=aB xP.o;simp;omega) xO.o).trans (((World.grownBy_alloc wc _ none).block R (aB xP.o) (by simp)).trans xP.o)) 3))
  obtain⟨hD4,hS4,Eo,IK⟩:=Wy HD2.o HS2.o jH xN.o.1 (fun e=>xN.o.2.2 (Option.some.inj (show some O=some P from e)).symm) aed.o hown3 hgrow hat;obtain⟨w4,hw4⟩:=zN (w3.setCell ⟨R,3,none⟩ (.slice (some ⟨g,0,none⟩) (ns.length+1) cap));rw[hw4]at hD4 hS4 Eo ⊢;have hF5:=ae (HF2.o.two Eo);clear hw4 hown3 hgrow hat hlt3 hc3 o8 HD2 HS2 HF2 Eo xP e2 e3 WE xO hBc;obtain⟨L,hL⟩:=zN ((ns++[(⟨kd,ky,tx,nu,[],pl⟩:Tn)]).length);have hL1:L=ns.length+1:=by rw[<-hL];simp
  have hpl:up<(ns++[(⟨kd,ky,tx,nu,[],pl⟩:Tn)]).length:=by simp;omega
  have hpL:up<L:=by omega
  obtain⟨ii4,er4,pp4,IL⟩:=hS4.dd;obtain⟨-,-,f2,-,-,-,-,-,ffz⟩:=IL.cells;have mJ:=hD4.kid up hpl;obtain⟨o4,m4,hv4⟩:=mG mJ;rw[<-hL1,<-hL]at hD4 hS4;obtain⟨-,-,-,-,e4,-,ef⟩:=hD4.node up hpl;obtain⟨cN1,hcN1⟩:=(bH hD4.row (g:=N1) rfl).2;rw[hv4]at e4 mJ;have hm4:((ns++[(⟨kd,ky,tx,nu,[],pl⟩:Tn)])[up]'hpl).ks.length<=1000000:=by
   have:=HW.o.len up;unfold af at this;rw[List.getElem?_eq_getElem HP.o]at this;simp only[]at this;rw[List.getElem_append_left HP.o];omega
  obtain⟨m,hm⟩:=zN (((ns++[(⟨kd,ky,tx,nu,[],pl⟩:Tn)])[up]'hpl).ks.length);have ajA:=ae mJ;rw[hm]at hm4 hv4 e4 mJ;obtain⟨ys,hys⟩:∃ys:List Value,(((ns++[(⟨kd,ky,tx,nu,[],pl⟩:Tn)])[up]'hpl).ks.map fun q=>Value.int .i64 (q:Nat))=ys:=⟨_,rfl⟩;rw[hys]at mJ;have bi:Hd (some R≠(Value.slice o4 m m4).ownBlock):=by
   show _≠_;intro e;obtain⟨cc,hcc⟩:=(bH mJ e.symm).2;exact aO IL hcc (by decide) rfl
  have iI:Hd (some N1≠(Value.slice o4 m m4).ownBlock):=by
   show _≠_;intro e;obtain⟨cc,hcc⟩:=(bH mJ e.symm).2;exact aO hcN1 hcc (by decide) rfl
  rw[<-hL1]at f2;have e4A:(w4.alloc (.cells #[.int .i64 (ns.length:Nat)] 3)).cell? ⟨N1,up*6+4,none⟩=some (.slice o4 m m4):=(World.grownBy_alloc w4 _ none).cell e4 (by simp);have f2A:(w4.alloc (.cells #[.int .i64 (ns.length:Nat)] 3)).cell? ⟨R,2,none⟩=some (.slice (some ⟨N1,0,none⟩) L c1):=(World.grownBy_alloc w4 _ none).cell f2 (by simp);obtain⟨Z,hZ⟩:=zN (w4.heap.size);have hBZ:=Nat.le_of_lt (Nat.lt_of_le_of_lt jH (aB IL));have qh:Hd ((w4.drew.alloc (.cells #[.int .i64 (ns.length:Nat)] 3)).heap[Z]?=some (.cells #[.int .i64 (ns.length:Nat)] 3 (0,0))):=by
   have:=heap_alloc_new w4.drew (.cells #[.int .i64 (ns.length:Nat)] 3);rw[show w4.drew.heap.size=Z from hZ]at this;exact this
  have kR:=ae hcN1;have HD4:=ae hD4;have uO:=ae hS4;have uf:=ae hv4;have nI:=ae hm;have lN:=ae hys;have lS:=ae hpl;have kQ:Hd ((ns++[(⟨kd,ky,tx,nu,[],pl⟩:Tn)]).length=L/\L=ns.length+1):=⟨hL,hL1⟩;have aef:=ae IK;have wY:Hd (∀(g' cap':Nat) (w3:World),w3.ownsRow B 3 1 (.slice (some ⟨g',0,none⟩) (m+1) cap') (m+1) (ys++[.int .i64 (ns.length:Nat)])->(w4.drew.alloc (.cells #[.int .i64 (ns.length:Nat)] 3)).grownBy w3 (Value.slice o4 m m4).ownBlock->((Value.slice o4 m m4).ownBlock=some g'\/g'=(w4.drew.alloc (.cells #[.int .i64 (ns.length:Nat)] 3)).heap.size)->WC B P R s now de q ns own (addN ns up ⟨kd,ky,tx,nu,[],pl⟩) w (.returned (.int .i64 (ns.length:Nat))) (w3.setCell ⟨N1,up*6+4,none⟩ (.slice (some ⟨g',0,none⟩) (m+1) cap'))):=fun g' cap' w3 a1 a2 a3=>by
   rw[<-uf.o]at a2 a3;rw[<-lN.o]at a1;obtain⟨xs',ks',q1,q2,q3⟩:=aec up HP.o lS.o HD4.o uO.o jH IJ.o nI.o a1 a2 a3;have elen:(ns++[(⟨kd,ky,tx,nu,[],pl⟩:Tn)]).length=(addN ns up ⟨kd,ky,tx,nu,[],pl⟩).length:=by rw[bY];simp
   rw[elen]at q1 q2;exact⟨rfl,⟨jH,xN.o.1,N1,c1,g,cap,xs',ks',IJ.o,aef.o,q1,q2⟩,(jF.o.two hF5.o).two q3⟩
  clear hD4 hS4 IL hcN1 hv4 hm hys hL hL1 IK ffz
  go_region_law (refine step_append_lies _ (by rfl) _ _ _ (by rfl) B 3 j0 _ 1 8 underlying43 hj0 hy0 hy1 hyb (by rfl) (by decide) (.slice o4 m m4) m ys (by rfl) (mJ.drew.alloc _) ⟨Z,0,none⟩ 1 1 [.int .i64 (ns.length:Nat)] (by rfl) (by rfl) (World.news_of_block qh.o) DC (by omega) (by unfold maxLen;omega) (by omega) (by simp;omega) _ rfl ?_;intro g' cap' w3 hown3 hgrow hat hlt3;have hc3:=nH e4 hgrow iI.o;have o8:w3.frozen? ⟨N1,up*6+4,none⟩=false:=rH kR.o hgrow iI.o;have acA:=nH f2 hgrow bi.o)
  all_goals (
   go_wp2_with fail;go_ret;exact wY.o g' cap' w3 hown3 hgrow hat)
end Go.Proofs.YtnnbgjaphfhibaaGreatDoor
