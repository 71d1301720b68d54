import Derived.Test.YtnnbgjaphfhibaaGreatDoorN13
import Derived.Test.YtnnbgjaphfhibaaGreatDoorN06
set_option linter.unusedVariables false
set_option linter.unusedSimpArgs false
set_option maxRecDepth 100000
set_option maxHeartbeats 6400000
namespace Go.Proofs.YtnnbgjaphfhibaaGreatDoor
open Go.RowKit Go.Maps Go.WideMaps Go.Joins
def oG(n:Nat)(own:List Nat):List Value:=(List.range n).map fun i=>.bool (decide (i∈own))
theorem F7(n:Nat)(own:List Nat):(oG n own).length=n:=by simp[oG]
theorem aaK(n:Nat)(own:List Nat)(h:¬n∈own):oG (n+1) own=oG n own++[.bool false]:=by
 unfold oG;rw[List.range_succ,List.map_append,List.map_singleton,decide_eq_false h]
theorem Ky(n:Nat)(own:List Nat)(t:Nat)(ht:t<n):(oG n own)[t]?=some (.bool (decide (t∈own))):=by
 unfold oG;rw[List.getElem?_map,List.getElem?_range ht];rfl
theorem aaL(n:Nat)(own:List Nat)(t:Nat)(ht:t<n):(oG n own).set t (.bool true)=oG n (t :: own):=by
 apply List.ext_getElem?;intro i
 by_cases hi:i<n
 ·rw[Ky n (t :: own) i hi]
  by_cases he:i=t
  ·subst he;rw[List.getElem?_set_self (by rw[F7];exact hi)];simp
  ·rw[List.getElem?_set_ne (fun e=>he e.symm),Ky n own i hi];simp[he]
 ·rw[List.getElem?_eq_none (by rw[List.length_set,F7];omega),List.getElem?_eq_none (by rw[F7];omega)]
structure DtD(w:World)(B P:Nat)(ns:List Tn)(m:Nat)(own:List Nat)(LV OV:Value)(xs:List Value)(ks:Nat->Value):Prop where
 row:w.ownsRow B 45 6 LV ns.length xs
 cel:∀i (hi:i<ns.length),xs[i*6]?=some (.int .i64 ns[i].kd)/\xs[i*6+1]?=some (.string ⟨ns[i].ky.toArray⟩)/\xs[i*6+2]?=some (.string ⟨ns[i].tx.toArray⟩)/\xs[i*6+3]?=some (.int .i64 ns[i].nu)/\xs[i*6+4]?=some (ks i)/\xs[i*6+5]?=some (.int .i64 (ns[i].pl:Nat))
 kid:∀i (hi:i<ns.length),w.ownsRow B 3 1 (ks i) ns[i].ks.length (ns[i].ks.map fun q=>.int .i64 (q:Nat))
 apart:∀i j g,i<ns.length->j<ns.length->(ks i).ownBlock=some g->(ks j).ownBlock=some g->i=j
 owr:w.ownsRow B 4 1 OV m (oG m own)
 far:∀i,i<ns.length->(ks i).ownBlock≠some P
 hP:P<w.heap.size
structure DFr(B P:Nat)(w w':World):Prop where
 bel:Below B w w'
 oth:∀(b:Nat) (cs:Array Value) (t:TypeId) (fz:Nat × Nat),w.heap[b]?=some (.cells cs t fz)->¬t=74->¬t=45->¬t=3->¬t=4->w'.heap[b]?=w.heap[b]?
 pro:w'.heap[P]?=w.heap[P]?
section
variable {w w':World} {B P:Nat} {ns:List Tn} {m:Nat} {own:List Nat} {LV OV:Value} {xs:List Value} {ks:Nat->Value}
theorem DFr.two{w1 w2:World}(h:DFr B P w w1)(h':DFr B P w1 w2):DFr B P w w2 :=
 ⟨h.bel.trans h'.bel,fun b cs t fz hb h1 h2 h3 h4=>by
  have e1:=h.oth b cs t fz hb h1 h2 h3 h4;exact(h'.oth b cs t fz (e1.trans hb) h1 h2 h3 h4).trans e1,h'.pro.trans h.pro⟩
theorem DFr.refl(w:World):DFr B P w w:=⟨⟨rfl,rfl,rfl,Nat.le_refl _,fun _ _=>rfl⟩,fun _ _ _ _ _ _ _ _ _=>rfl,rfl⟩
theorem DFr.gb(hg:w.grownBy w' none)(hB:B<=w.heap.size)(hP:P<w.heap.size):DFr B P w w' :=
 ⟨⟨hg.os,hg.tape,hg.output,hg.size,fun k hk=>hg.block k (by omega) (by simp)⟩,fun b cs t fz hb _ _ _ _=>hg.block b (aA hb) (by simp),hg.block P hP (by simp)⟩
theorem DFr.row{t:TypeId}{g:Nat}{cur:Array Value}{fz:Nat × Nat}(hg:w.grownBy w' (some g))(hB:B<=w.heap.size)(hP:P<w.heap.size)(hgB:B<=g)(hgP:¬P=g)(hb:w.heap[g]?=some (.cells cur t fz))(ht:t=74\/t=45\/t=3\/t=4):DFr B P w w' :=
 ⟨⟨hg.os,hg.tape,hg.output,hg.size,fun k hk=>hg.block k (by omega) (by simp;omega)⟩,fun b cs t' fz' hb' h1 h2 h3 h4=>hg.block b (aA hb') (by
  simp only[ne_eq,Option.some.injEq];refine aP hb' hb ?_
  rcases ht with rfl|rfl|rfl|rfl
  ·exact h1
  ·exact h2
  ·exact h3
  ·exact h4),hg.block P hP (by simpa using hgP)⟩
theorem DFr.size(h:DFr B P w w'):w.heap.size<=w'.heap.size:=h.bel.size
theorem DtD.keeps(h:DtD w B P ns m own LV OV xs ks)(hsz:w.heap.size<=w'.heap.size)(hk:∀(b:Nat) (cs:Array Value) (t:TypeId) (fz:Nat × Nat),w.heap[b]?=some (.cells cs t fz)->(t=45\/t=3\/t=4)->w'.heap[b]?=w.heap[b]?):DtD w' B P ns m own LV OV xs ks :=
 ⟨bK h.row fun g cur _ hc=>hk _ _ _ _ hc (Or.inl rfl),h.cel,fun i hi=>bK (h.kid i hi) fun g cur _ hc=>hk _ _ _ _ hc (Or.inr (Or.inl rfl)),h.apart,bK h.owr fun g cur _ hc=>hk _ _ _ _ hc (Or.inr (Or.inr rfl)),h.far,Nat.lt_of_lt_of_le h.hP hsz⟩
theorem DtD.gb(h:DtD w B P ns m own LV OV xs ks)(hg:w.grownBy w' none):DtD w' B P ns m own LV OV xs ks:=h.keeps hg.size fun b cs t fz hb _=>hg.block b (aA hb) (by simp)
theorem DtD.keepR{R:Nat}{s:ByteArray}{L O:Value}{now de i:Nat}{er:Int}{p:Nat}(h:DtD w B P ns m own LV OV xs ks)(hR:Dd w R s L O now de i er p)(hg:w.grownBy w' (some R)):DtD w' B P ns m own LV OV xs ks :=
 h.keeps hg.size fun b cs t fz hb ht=>hg.block b (aA hb) (by
  simp only[ne_eq,Option.some.injEq];refine aP hb hR ?_
  rcases ht with rfl|rfl|rfl<;>decide)
theorem Ds.dd{R:Nat}{s:ByteArray}{L O:Value}{now de:Nat}{q:Rs Nat}(h:Ds w R s L O now de q):∃i er p,Dd w R s L O now de i er p:=by
 match q,h with
 | .ok i,h=>exact⟨_,_,_,h.2⟩
 | .error (c,p),⟨_,j,_,h3⟩=>exact⟨_,_,_,h3⟩
theorem Ds.other{R g:Nat}{s:ByteArray}{L O:Value}{now de:Nat}{q:Rs Nat}(h:Ds w R s L O now de q)(hg:w.grownBy w' (some g))(hne:¬R=g):Ds w' R s L O now de q:=by
 have key:∀i er p,Dd w R s L O now de i er p->Dd w' R s L O now de i er p:=fun i er p hd=>(hg.block R (aA hd) (by simpa using hne)).trans hd
 match q,h with
 | .ok i,h=>exact⟨h.1,key _ _ _ h.2⟩
 | .error (c,p),⟨h1,j,h2,h3⟩=>exact⟨h1,j,h2,key _ _ _ h3⟩
theorem DtD.node{N c:Nat}(h:DtD w B P ns m own (.slice (some ⟨N,0,none⟩) ns.length c) OV xs ks)(i:Nat)(hi:i<ns.length):w.cell? ⟨N,i*6,none⟩=some (.int .i64 ns[i].kd)/\w.cell? ⟨N,i*6+1,none⟩=some (.string ⟨ns[i].ky.toArray⟩)/\w.cell? ⟨N,i*6+2,none⟩=some (.string ⟨ns[i].tx.toArray⟩)/\w.cell? ⟨N,i*6+3,none⟩=some (.int .i64 ns[i].nu)/\w.cell? ⟨N,i*6+4,none⟩=some (ks i)/\w.cell? ⟨N,i*6+5,none⟩=some (.int .i64 (ns[i].pl:Nat))/\∀k,w.frozen? ⟨N,k,none⟩=false:=by
 obtain⟨h0,h1,h2,h3,h4,h5⟩:=h.cel i hi;have key:∀j u,xs[j]?=some u->w.cell? ⟨N,j,none⟩=some u:=fun j u hu=>by
  have:=h.row.cells (g:=N) rfl j u hu;rw[mr]at this;exact this
 obtain⟨cur,hc⟩:=(bn h.row rfl).2;exact⟨key _ _ h0,key _ _ h1,key _ _ h2,key _ _ h3,key _ _ h4,key _ _ h5,fun k=>Lib.frozen_of_heap hc k⟩
theorem DtD.flagAt{O oc:Nat}(h:DtD w B P ns m own LV (.slice (some ⟨O,0,none⟩) m oc) xs ks)(t:Nat)(ht:t<m):w.cell? ⟨O,t,none⟩=some (.bool (decide (t∈own)))/\w.frozen? ⟨O,t,none⟩=false:=by
 obtain⟨cur,hc⟩:=(bn h.owr rfl).2;refine⟨?_,Lib.frozen_of_heap hc t⟩;have:=h.owr.cells (g:=O) rfl t _ (Ky m own t ht);rw[mr]at this;exact this
theorem DtD.push(h:DtD w B P ns m own LV OV xs ks){w1:World}{LV':Value}{L:Nat}(x:Tn)(hx:x.ks=[])(hL:ns.length+1=L)
  (ho:w1.ownsRow B 45 6 LV' L (xs++[.int .i64 x.kd,.string ⟨x.ky.toArray⟩,.string ⟨x.tx.toArray⟩,.int .i64 x.nu,.slice none 0 0,.int .i64 (x.pl:Nat)])) (hg:w.grownBy w1 LV.ownBlock) :
  DtD w1 B P (ns++[x]) m own LV' OV (xs++[.int .i64 x.kd,.string ⟨x.ky.toArray⟩,.string ⟨x.tx.toArray⟩,.int .i64 x.nu,.slice none 0 0,.int .i64 (x.pl:Nat)]) (fun i=>if i=ns.length then .slice none 0 0 else ks i):=by
 have hne:∀(b:Nat) (cs:Array Value) (t:TypeId) (fz:Nat × Nat),w.heap[b]?=some (.cells cs t fz)->¬t=45->w1.heap[b]?=w.heap[b]?:=fun b cs t fz hb ht=>hg.block b (aA hb) (fun e=>by
  obtain⟨cc,hcc⟩:=(bn h.row e.symm).2;exact aP hb hcc ht rfl)
 have hxl:xs.length=ns.length*6:=h.row.1;have hlen:(ns++[x]).length=L:=by simp[hL]
 refine⟨?_,?_,?_,?_,bK h.owr fun g cur _ hc=>hne _ _ _ _ hc (by decide),?_,Nat.lt_of_lt_of_le h.hP hg.size⟩
 ·rw[hlen];exact ho
 ·intro i hi;rw[hlen]at hi
  by_cases he:i=ns.length
  ·subst he;simp only[List.getElem_append_right (Nat.le_refl _),Nat.sub_self,List.getElem_cons_zero];rw[<-hxl];refine⟨?_,?_,?_,?_,?_,?_⟩
   ·rw[List.getElem?_append_right (by omega),Nat.sub_self];rfl
   ·rw[List.getElem?_append_right (by omega),show xs.length+1-xs.length=1 by omega];rfl
   ·rw[List.getElem?_append_right (by omega),show xs.length+2-xs.length=2 by omega];rfl
   ·rw[List.getElem?_append_right (by omega),show xs.length+3-xs.length=3 by omega];rfl
   ·rw[List.getElem?_append_right (by omega),show xs.length+4-xs.length=4 by omega];simp
   ·rw[List.getElem?_append_right (by omega),show xs.length+5-xs.length=5 by omega];rfl
  ·have hlt:i<ns.length:=by omega
   obtain⟨h0,h1,h2,h3,h4,h5⟩:=h.cel i hlt;simp only[List.getElem_append_left hlt,if_neg he];refine⟨?_,?_,?_,?_,?_,?_⟩
   all_goals (rw[List.getElem?_append_left (by omega)];assumption)
 ·intro i hi;rw[hlen]at hi
  by_cases he:i=ns.length
  ·subst he;simp only[List.getElem_append_right (Nat.le_refl _),Nat.sub_self,List.getElem_cons_zero,hx,if_true];exact⟨rfl,Or.inl ⟨rfl,rfl⟩⟩
  ·have hlt:i<ns.length:=by omega
   simp only[List.getElem_append_left hlt,if_neg he];exact bK (h.kid i hlt) fun g' cur' _ hc=>hne _ _ _ _ hc (by decide)
 ·intro i j g' hi hj h1 h2;rw[hlen]at hi hj
  by_cases hei:i=ns.length
  ·rw[if_pos hei]at h1;cases h1
  ·by_cases hej:j=ns.length
   ·rw[if_pos hej]at h2;cases h2
   ·rw[if_neg hei]at h1;rw[if_neg hej]at h2;exact h.apart i j g' (by omega) (by omega) h1 h2
 ·intro i hi;rw[hlen]at hi
  by_cases hei:i=ns.length
  ·simp only[if_pos hei];exact fun e=>by cases e
  ·simp only[if_neg hei];exact h.far i (by omega)
theorem DtD.flag(h:DtD w B P ns m own LV OV xs ks){w1:World}{OV':Value}{L:Nat}(hL:m+1=L)(hm:¬m∈own)
  (ho:w1.ownsRow B 4 1 OV' L (oG m own++[.bool false])) (hg:w.grownBy w1 OV.ownBlock):DtD w1 B P ns L own LV OV' xs ks:=by
 have hne:∀(b:Nat) (cs:Array Value) (t:TypeId) (fz:Nat × Nat),w.heap[b]?=some (.cells cs t fz)->¬t=4->w1.heap[b]?=w.heap[b]?:=fun b cs t fz hb ht=>hg.block b (aA hb) (fun e=>by
  obtain⟨cc,hcc⟩:=(bn h.owr e.symm).2;exact aP hb hcc ht rfl)
 refine⟨bK h.row fun g cur _ hc=>hne _ _ _ _ hc (by decide),h.cel,fun i hi=>bK (h.kid i hi) fun g cur _ hc=>hne _ _ _ _ hc (by decide),h.apart,?_,h.far,Nat.lt_of_lt_of_le h.hP hg.size⟩;rw[<-hL,aaK m own hm,hL];exact ho
theorem DtD.kidOwn(h:DtD w B P ns m own LV OV xs ks){i:Nat}(hi:i<ns.length){g:Nat}(hg:(ks i).ownBlock=some g):∃cur,w.heap[g]?=some (.cells cur 3 (0,0)):=(bn (h.kid i hi) hg).2
theorem DtD.kidp{N c:Nat}(h:DtD w B P ns m own (.slice (some ⟨N,0,none⟩) ns.length c) OV xs ks){w1:World}{g cap L:Nat}(p:Nat)(hp:p<ns.length)(q:Nat)(hL:ns[p].ks.length+1=L)
  (ho:w1.ownsRow B 3 1 (.slice (some ⟨g,0,none⟩) L cap) L ((ns[p].ks.map fun q=>.int .i64 (q:Nat))++[.int .i64 (q:Nat)])) (hg:w.grownBy w1 (ks p).ownBlock) (hat:(ks p).ownBlock=some g\/w.heap.size<=g) :
  DtD (w1.setCell ⟨N,p*6+4,none⟩ (.slice (some ⟨g,0,none⟩) L cap)) B P (ns.set p { ns[p] with ks:=ns[p].ks++[q] }) m own (.slice (some ⟨N,0,none⟩) ns.length c) OV (xs.set (p*6+4) (.slice (some ⟨g,0,none⟩) L cap)) (fun i=>if i=p then .slice (some ⟨g,0,none⟩) L cap else ks i):=by
 obtain⟨cur,hN⟩:=(bn h.row (g:=N) rfl).2;have xC:∀(b:Nat) (cs:Array Value) (t:TypeId) (fz:Nat × Nat),w.heap[b]?=some (.cells cs t fz)->¬t=3->w1.heap[b]?=w.heap[b]?:=fun b cs t fz hb ht=>hg.block b (aA hb) (fun e=>by
  obtain⟨cc,hcc⟩:=h.kidOwn hp e.symm;exact aP hb hcc ht rfl)
 have hN1:=xC _ _ _ _ hN (by decide);have hxl:xs.length=ns.length*6:=h.row.1;have hlen:(ns.set p { ns[p] with ks:=ns[p].ks++[q] }).length=ns.length:=by simp
 have hPw:=h.hP;have hs:∀(b:Nat) (cs:Array Value) (t:TypeId) (fz:Nat × Nat),w1.heap[b]?=some (.cells cs t fz)->¬t=45->(w1.setCell ⟨N,p*6+4,none⟩ (.slice (some ⟨g,0,none⟩) L cap)).heap[b]?=w1.heap[b]?:=fun b cs t fz hb ht=>heap_setCell_other _ _ _ _ (aP hb (hN1.trans hN) ht)
 have fresh:∀k,k<ns.length->¬k=p->(ks k).ownBlock=some g->False:=fun k hk hne e=>by
  rcases hat with e2|e2
  ·exact hne (h.apart k p g hk hp e e2)
  ·obtain⟨cc,hcc⟩:=h.kidOwn hk e;have:=aA hcc;omega
 refine⟨?_,?_,?_,?_,?_,?_,by have:=hg.size;simp[World.setCell];omega⟩
 ·rw[hlen];have r1:w1.ownsRow B 45 6 (.slice (some ⟨N,0,none⟩) ns.length c) ns.length xs:=bK h.row fun g' cur' hh hc=>xC _ _ _ _ hc (by decide)
  refine⟨by rw[List.length_set];exact r1.1,?_⟩
  rcases r1.2 with⟨e1,_⟩|⟨g',cap',cu,e1,hb,hgg,hn,hm,hs,ht⟩
  ·cases e1
  ·cases e1
   refine Or.inr ⟨N,c,cu.setIfInBounds (p*6+4) _,rfl,hb,block_setCell hgg _,hn,hm,by simpa using hs,?_⟩;rw[Array.toList_setIfInBounds,List.take_set,ht]
 ·intro i hi;rw[hlen]at hi;obtain⟨h0,h1,h2,h3,h4,h5⟩:=h.cel i hi;have keep:∀j,j<xs.length->¬j=p*6+4->(xs.set (p*6+4) (.slice (some ⟨g,0,none⟩) L cap))[j]?=xs[j]?:=fun j hj hne=>List.getElem?_set_ne (fun e=>hne e.symm)
  by_cases he:i=p
  ·subst he;simp only[List.getElem_set_self,if_true];refine⟨(keep _ (by omega) (by omega)).trans h0,(keep _ (by omega) (by omega)).trans h1,(keep _ (by omega) (by omega)).trans h2,(keep _ (by omega) (by omega)).trans h3,List.getElem?_set_self (by omega),(keep _ (by omega) (by omega)).trans h5⟩
  ·have hpi:¬p=i:=fun e=>he e.symm
   simp only[List.getElem_set_ne hpi,if_neg he];refine⟨(keep _ (by omega) (by omega)).trans h0,(keep _ (by omega) (by omega)).trans h1,(keep _ (by omega) (by omega)).trans h2,(keep _ (by omega) (by omega)).trans h3,(keep _ (by omega) (by omega)).trans h4,(keep _ (by omega) (by omega)).trans h5⟩
 ·intro i hi;rw[hlen]at hi
  by_cases he:i=p
  ·subst he;simp only[List.getElem_set_self,if_true];rw[List.map_append,List.length_append,List.length_singleton,hL];exact bK ho fun g' cur' _ hc=>hs g' _ _ _ hc (by decide)
  ·have hpi:¬p=i:=fun e=>he e.symm
   simp only[List.getElem_set_ne hpi,if_neg he];refine bK (h.kid i hi) fun g' cur' hgo hc=>?_
   have e1:w1.heap[g']?=w.heap[g']?:=hg.block g' (aA hc) (fun e=>he (h.apart i p g' hi hp hgo e.symm));exact(hs g' _ _ _ (e1.trans hc) (by decide)).trans e1
 ·intro i j g' hi hj h1 h2;rw[hlen]at hi hj
  by_cases hei:i=p
  ·by_cases hej:j=p
   ·rw[hei,hej]
   ·rw[if_pos hei]at h1;rw[if_neg hej]at h2
    cases h1
    exact(fresh j hj hej h2).elim
  ·by_cases hej:j=p
   ·rw[if_pos hej]at h2;rw[if_neg hei]at h1
    cases h2
    exact(fresh i hi hei h1).elim
   ·rw[if_neg hei]at h1;rw[if_neg hej]at h2;exact h.apart i j g' hi hj h1 h2
 ·refine bK h.owr fun g' cur' _ hc=>?_
  have e1:=xC _ _ _ _ hc (by decide);exact(hs g' _ _ _ (e1.trans hc) (by decide)).trans e1
 ·intro i hi;rw[hlen]at hi
  by_cases hei:i=p
  ·simp only[if_pos hei];intro e;have e':g=P:=Option.some.inj (show some g=some P from e)
   rcases hat with e2|e2
   ·exact h.far p hp (e' ▸ e2)
   ·omega
  ·simp only[if_neg hei];exact h.far i hi
theorem DtD.mark{O oc:Nat}(h:DtD w B P ns m own LV (.slice (some ⟨O,0,none⟩) m oc) xs ks)(t:Nat)(ht:t<m):DtD (w.setCell ⟨O,t,none⟩ (.bool true)) B P ns m (t :: own) LV (.slice (some ⟨O,0,none⟩) m oc) xs ks:=by
 obtain⟨cur,hO⟩:=(bn h.owr (g:=O) rfl).2;have hs:∀(b:Nat) (cs:Array Value) (t':TypeId) (fz:Nat × Nat),w.heap[b]?=some (.cells cs t' fz)->¬t'=4->(w.setCell ⟨O,t,none⟩ (.bool true)).heap[b]?=w.heap[b]?:=fun b cs t' fz hb ht'=>heap_setCell_other _ _ _ _ (aP hb hO ht')
 refine⟨bK h.row fun g cur _ hc=>hs _ _ _ _ hc (by decide),h.cel,fun i hi=>bK (h.kid i hi) fun g cur _ hc=>hs _ _ _ _ hc (by decide),h.apart,?_,h.far,by have:=h.hP;simpa [World.setCell] using this⟩;refine⟨by rw[F7];simp,?_⟩
 rcases h.owr.2 with⟨e1,_⟩|⟨g',cap',cu,e1,hb,hgg,hn,hm,hs',ht'⟩
 ·cases e1
 ·cases e1
  refine Or.inr ⟨O,oc,cu.setIfInBounds t (.bool true),rfl,hb,block_setCell hgg _,hn,hm,by simpa using hs',?_⟩;rw[Array.toList_setIfInBounds,List.take_set,ht',aaL m own t ht]
theorem DtD.far2(h:DtD w B P ns m own LV OV xs ks){P':Nat}(hP:P'<w.heap.size)(hf:∀i,i<ns.length->(ks i).ownBlock≠some P'):DtD w B P' ns m own LV OV xs ks:=⟨h.row,h.cel,h.kid,h.apart,h.owr,hf,hP⟩
end
theorem DFr.app{w w':World}{B P:Nat}{t:TypeId}{sz n:Nat}{V:Value}{ys:List Value}(ho:w.ownsRow B t sz V n ys)(hg:w.grownBy w' V.ownBlock)(hB:B<=w.heap.size)(hP:P<w.heap.size)(hVP:V.ownBlock≠some P)(ht:t=74\/t=45\/t=3\/t=4):DFr B P w w':=by
 cases hb:V.ownBlock with
 | none=>rw[hb]at hg;exact DFr.gb hg hB hP
 | some q =>
  rw[hb]at hg hVP;obtain⟨hq,cc,hcc⟩:=bn ho hb;exact DFr.row hg hB hP hq (fun e=>hVP (by rw[e])) hcc ht
theorem Ds.app{w w':World}{B R:Nat}{t:TypeId}{sz n:Nat}{V:Value}{ys:List Value}{s:ByteArray}{L O:Value}{now de:Nat}{q:Rs Nat}(h:Ds w R s L O now de q)(ho:w.ownsRow B t sz V n ys)(hg:w.grownBy w' V.ownBlock)(ht:¬t=74):Ds w' R s L O now de q:=by
 cases hb:V.ownBlock with
 | none=>rw[hb]at hg;exact h.grow hg
 | some g =>
  rw[hb]at hg;obtain⟨hq,cc,hcc⟩:=bn ho hb;obtain⟨i,er,p,hd⟩:=h.dd;exact h.other hg (aP hd hcc (fun e=>ht e.symm))
section
variable {w:World} {R:Nat} {s:ByteArray} {L O:Value} {now de:Nat} {q:Rs Nat}
theorem Ds.setL(h:Ds w R s L O now de q)(v:Value):Ds (w.setCell ⟨R,2,none⟩ v) R s v O now de q:=by
 match q,h with
 | .ok i,h=>exact⟨h.1,h.2.setL v⟩
 | .error (c,p),⟨h1,j,h2,h3⟩=>exact⟨h1,j,h2,h3.setL v⟩
theorem Ds.setO(h:Ds w R s L O now de q)(v:Value):Ds (w.setCell ⟨R,3,none⟩ v) R s L v now de q:=by
 match q,h with
 | .ok i,h=>exact⟨h.1,h.2.setO v⟩
 | .error (c,p),⟨h1,j,h2,h3⟩=>exact⟨h1,j,h2,h3.setO v⟩
theorem Ds.setN(h:Ds w R s L O now de q)(m:Nat):Ds (w.setCell ⟨R,4,none⟩ (.int .i64 (m:Nat))) R s L O m de q:=by
 match q,h with
 | .ok i,h=>exact⟨h.1,h.2.setN m⟩
 | .error (c,p),⟨h1,j,h2,h3⟩=>exact⟨h1,j,h2,h3.setN m⟩
theorem Ds.setD(h:Ds w R s L O now de q)(m:Nat):Ds (w.setCell ⟨R,7,none⟩ (.int .i64 (m:Nat))) R s L O now m q:=by
 match q,h with
 | .ok i,h=>exact⟨h.1,h.2.setD m⟩
 | .error (c,p),⟨h1,j,h2,h3⟩=>exact⟨h1,j,h2,h3.setD m⟩
end
def Dt(w:World)(B P R:Nat)(s:ByteArray)(now de:Nat)(q:Rs Nat)(ns:List Tn)(own:List Nat):Prop:=B<=R/\¬P=R/\∃N c O oc xs ks,¬P=N/\¬P=O/\DtD w B P ns ns.length own (.slice (some ⟨N,0,none⟩) ns.length c) (.slice (some ⟨O,0,none⟩) ns.length oc) xs ks/\Ds w R s (.slice (some ⟨N,0,none⟩) ns.length c) (.slice (some ⟨O,0,none⟩) ns.length oc) now de q
end Go.Proofs.YtnnbgjaphfhibaaGreatDoor
