import Derived.Test.YtbcfhgpfgdbjgaaGreatDoorK11
import Derived.Test.YtbcfhgpfgdbjgaaGreatDoorK18
import Derived.Test.YtbcfhgpfgdbjgaaGreatDoorK10
set_option linter.all false
set_option maxRecDepth 100000
set_option maxHeartbeats 0
open Go.Proofs.Tryz
namespace Go.Proofs.YtbcfhgpfgdbjgaaGreatDoor
open Go.RowKit Go.Maps Go.WideMaps Go.Joins
variable{s:ByteArray}{ns:List Tn}{ys:List Value}{B N P R c cap de g i n oc sz:Nat}{t:TypeId}{L O:Value}{w w' w1:World}
def qi(n:Nat)(own:List Nat):List Value:=(List.range n).map fun i=>.bool (decide (i∈own))
theorem JU(n:Nat)(own:List Nat):(qi n own).length=n:=by simp[qi]
theorem af8(n:Nat)(own:List Nat)(h:¬n∈own):qi (n+1) own=qi n own++[.bool false]:=by
 unfold qi;rw[List.range_succ,List.map_append,List.map_singleton,decide_eq_false h]
theorem P6(n:Nat)(own:List Nat)(t:Nat)(ht:t<n):(qi n own)[t]?=some (.bool (decide (t∈own))):=by
 unfold qi;rw[List.getElem?_map,List.getElem?_range ht];rfl
theorem af9(n:Nat)(own:List Nat)(t:Nat)(ht:t<n):(qi n own).set t (.bool true)=qi n (t :: own):=by
 apply List.ext_getElem?;intro i
 by_cases hi:i<n
 ·rw[P6 n (t :: own) i hi]
  by_cases he:i=t
  ·subst he;rw[List.getElem?_set_self (by rw[JU];exact hi)];simp
  ·rw[List.getElem?_set_ne (fun e=>he e.symm),P6 n own i hi];simp[he]
 ·rw[List.getElem?_eq_none (by rw[List.length_set,JU];omega),List.getElem?_eq_none (by rw[JU];omega)]
structure DtD(w:World)(B P:Nat)(ns:List Tn)(m:Nat)(own:List Nat)(LV OV:Value)(xs:List Value)(ks:Nat->Value):Prop where
 row:w.ownsRow B 48 6 LV ns.length xs
 cel:∀i (hi:i<ns.length),xs[i*6]?=some (.int .i64 ns[i].kd)/\xs[i*6+1]?=some (.string ⟨ns[i].ky.toArray⟩)/\xs[i*6+2]?=some (.string ⟨ns[i].tx.toArray⟩)/\xs[i*6+3]?=some (.int .i64 ns[i].nu)/\xs[i*6+4]?=some (ks i)/\xs[i*6+5]?=some (.int .i64 (ns[i].pl:Nat))
 kid:∀i (hi:i<ns.length),w.ownsRow B 3 1 (ks i) ns[i].ks.length (ns[i].ks.map fun q=>.int .i64 (q:Nat))
 apart:∀i j g,i<ns.length->j<ns.length->(ks i).ownBlock=some g->(ks j).ownBlock=some g->i=j
 owr:w.ownsRow B 4 1 OV m (qi m own)
 far:∀i,i<ns.length->(ks i).ownBlock≠some P
 hP:P<w.heap.size
structure DFr(B P:Nat)(w w':World):Prop where
 bel:Below B w w'
 oth:∀(b:Nat) (cs:Array Value) (t:TypeId) (fz:Nat × Nat),w.heap[b]?=some (.cells cs t fz)->¬t=72->¬t=48->¬t=3->¬t=4->w'.heap[b]?=w.heap[b]?
 pro:w'.heap[P]?=w.heap[P]?
section
variable {w w':World} {B P:Nat} {ns:List Tn} {m:Nat} {own:List Nat} {LV OV:Value} {xs:List Value} {ks:Nat->Value}
theorem DFr.two{w2:World}(h:DFr B P w w1)(h':DFr B P w1 w2):DFr B P w w2 :=
 ⟨h.bel.trans h'.bel,fun b cs t fz hb h1 h2 h3 h4=>by
  have e1:=h.oth b cs t fz hb h1 h2 h3 h4;exact(h'.oth b cs t fz (e1.trans hb) h1 h2 h3 h4).trans e1,h'.pro.trans h.pro⟩
theorem DFr.refl(w:World):DFr B P w w:=⟨⟨rfl,rfl,rfl,Nat.le_refl _,fun _ _=>rfl⟩,fun _ _ _ _ _ _ _ _ _=>rfl,rfl⟩
theorem DFr.gb(hg:w.grownBy w' none)(hB:B<=w.heap.size)(hP:P<w.heap.size):DFr B P w w' :=
 ⟨⟨hg.os,hg.tape,hg.output,hg.size,fun k hk=>hg.block k (by omega) (by simp)⟩,fun b cs t fz hb _ _ _ _=>hg.block b (aG hb) (by simp),hg.block P hP (by simp)⟩
theorem DFr.row{cur:Array Value}{fz:Nat × Nat}(hg:w.grownBy w' (some g))(hB:B<=w.heap.size)(hP:P<w.heap.size)(hgB:B<=g)(hgP:¬P=g)(hb:w.heap[g]?=some (.cells cur t fz))(ht:t=72\/t=48\/t=3\/t=4):DFr B P w w' :=
 ⟨⟨hg.os,hg.tape,hg.output,hg.size,fun k hk=>hg.block k (by omega) (by simp;omega)⟩,fun b cs t' fz' hb' h1 h2 h3 h4=>hg.block b (aG hb') (by
  simp only[ne_eq,Option.some.injEq];refine aZ hb' hb ?_
  rcases ht with rfl|rfl|rfl|rfl
  ·exact h1
  ·exact h2
  ·exact h3
  ·exact h4),hg.block P hP (by simpa using hgP)⟩
theorem DFr.size(h:DFr B P w w'):w.heap.size<=w'.heap.size:=h.bel.size
theorem DtD.keeps(h:DtD w B P ns m own LV OV xs ks)(hsz:w.heap.size<=w'.heap.size)(hk:∀(b:Nat) (cs:Array Value) (t:TypeId) (fz:Nat × Nat),w.heap[b]?=some (.cells cs t fz)->(t=48\/t=3\/t=4)->w'.heap[b]?=w.heap[b]?):DtD w' B P ns m own LV OV xs ks :=
 ⟨bY h.row fun g cur _ hc=>hk _ _ _ _ hc (Or.inl rfl),h.cel,fun i hi=>bY (h.kid i hi) fun g cur _ hc=>hk _ _ _ _ hc (Or.inr (Or.inl rfl)),h.apart,bY h.owr fun g cur _ hc=>hk _ _ _ _ hc (Or.inr (Or.inr rfl)),h.far,Nat.lt_of_lt_of_le h.hP hsz⟩
theorem DtD.gb(h:DtD w B P ns m own LV OV xs ks)(hg:w.grownBy w' none):DtD w' B P ns m own LV OV xs ks:=h.keeps hg.size fun b cs t fz hb _=>hg.block b (aG hb) (by simp)
theorem DtD.keepR{now:Nat}{er:Int}{p:Nat}(h:DtD w B P ns m own LV OV xs ks)(hR:Dd w R s L O now de i er p)(hg:w.grownBy w' (some R)):DtD w' B P ns m own LV OV xs ks :=
 h.keeps hg.size fun b cs t fz hb ht=>hg.block b (aG hb) (by
  simp only[ne_eq,Option.some.injEq];refine aZ hb hR ?_
  rcases ht with rfl|rfl|rfl<;>decide)
theorem Ds.dd{now:Nat}{q:Rs Nat}(h:Ds w R s L O now de q):∃i er p,Dd w R s L O now de i er p:=by
 match q,h with
 | .ok i,h=>exact⟨_,_,_,h.2⟩
 | .error (c,p),⟨_,j,_,h3⟩=>exact⟨_,_,_,h3⟩
theorem Ds.other{now:Nat}{q:Rs Nat}(h:Ds w R s L O now de q)(hg:w.grownBy w' (some g))(hne:¬R=g):Ds w' R s L O now de q:=by
 have key:∀i er p,Dd w R s L O now de i er p->Dd w' R s L O now de i er p:=fun i er p hd=>(hg.block R (aG hd) (by simpa using hne)).trans hd
 match q,h with
 | .ok i,h=>exact⟨h.1,key _ _ _ h.2⟩
 | .error (c,p),⟨h1,j,h2,h3⟩=>exact⟨h1,j,h2,key _ _ _ h3⟩
theorem DtD.node(h:DtD w B P ns m own (.slice (some ⟨N,0,none⟩) ns.length c) OV xs ks)(i:Nat)(hi:i<ns.length):w.cell? ⟨N,i*6,none⟩=some (.int .i64 ns[i].kd)/\w.cell? ⟨N,i*6+1,none⟩=some (.string ⟨ns[i].ky.toArray⟩)/\w.cell? ⟨N,i*6+2,none⟩=some (.string ⟨ns[i].tx.toArray⟩)/\w.cell? ⟨N,i*6+3,none⟩=some (.int .i64 ns[i].nu)/\w.cell? ⟨N,i*6+4,none⟩=some (ks i)/\w.cell? ⟨N,i*6+5,none⟩=some (.int .i64 (ns[i].pl:Nat))/\∀k,w.frozen? ⟨N,k,none⟩=false:=by
 obtain⟨h0,h1,h2,h3,h4,h5⟩:=h.cel i hi;have key:∀j u,xs[j]?=some u->w.cell? ⟨N,j,none⟩=some u:=fun j u hu=>by
  have:=h.row.cells (g:=N) rfl j u hu;rw[uA]at this;exact this
 obtain⟨cur,hc⟩:=(dO h.row rfl).2;exact⟨key _ _ h0,key _ _ h1,key _ _ h2,key _ _ h3,key _ _ h4,key _ _ h5,fun k=>Lib.frozen_of_heap hc k⟩
theorem DtD.flagAt{O:Nat}(h:DtD w B P ns m own LV (.slice (some ⟨O,0,none⟩) m oc) xs ks)(t:Nat)(ht:t<m):w.cell? ⟨O,t,none⟩=some (.bool (decide (t∈own)))/\w.frozen? ⟨O,t,none⟩=false:=by
 obtain⟨cur,hc⟩:=(dO h.owr rfl).2;refine⟨?_,Lib.frozen_of_heap hc t⟩;have:=h.owr.cells (g:=O) rfl t _ (P6 m own t ht);rw[uA]at this;exact this
theorem DtD.push(h:DtD w B P ns m own LV OV xs ks){LV':Value}{L:Nat}(x:Tn)(hx:x.ks=[])(hL:ns.length+1=L)
  (ho:w1.ownsRow B 48 6 LV' L (xs++[.int .i64 x.kd,.string ⟨x.ky.toArray⟩,.string ⟨x.tx.toArray⟩,.int .i64 x.nu,.slice none 0 0,.int .i64 (x.pl:Nat)])) (hg:w.grownBy w1 LV.ownBlock) :
  DtD w1 B P (ns++[x]) m own LV' OV (xs++[.int .i64 x.kd,.string ⟨x.ky.toArray⟩,.string ⟨x.tx.toArray⟩,.int .i64 x.nu,.slice none 0 0,.int .i64 (x.pl:Nat)]) (fun i=>if i=ns.length then .slice none 0 0 else ks i):=by
 have hne:∀(b:Nat) (cs:Array Value) (t:TypeId) (fz:Nat × Nat),w.heap[b]?=some (.cells cs t fz)->¬t=48->w1.heap[b]?=w.heap[b]?:=fun b cs t fz hb ht=>hg.block b (aG hb) (fun e=>by
  obtain⟨cc,hcc⟩:=(dO h.row e.symm).2;exact aZ hb hcc ht rfl)
 have hxl:=h.row.1;have hlen:(ns++[x]).length=L:=by simp[hL]
 refine⟨?_,?_,?_,?_,bY h.owr fun g cur _ hc=>hne _ _ _ _ hc (by decide),?_,Nat.lt_of_lt_of_le h.hP hg.size⟩
 ·rw[hlen];exact ho
 ·intro i hi;rw[hlen]at hi
  by_cases he:i=ns.length
  ·subst he;simp only[List.getElem_append_right (Nat.le_refl _),Nat.sub_self,List.getElem_cons_zero];rw[<-hxl];refine⟨?_,?_,?_,?_,?_,?_⟩
   ·rw[List.getElem?_append_right (by omega),Nat.sub_self];rfl
   ·rw[List.getElem?_append_right (by omega),show xs.length+1-xs.length=1 by omega];rfl
   ·rw[List.getElem?_append_right (by omega),show xs.length+2-xs.length=2 by omega];rfl
   ·rw[List.getElem?_append_right (by omega),show xs.length+3-xs.length=3 by omega];rfl
   ·rw[List.getElem?_append_right (by omega),show xs.length+4-xs.length=4 by omega];simp
   ·rw[List.getElem?_append_right (by omega),show xs.length+5-xs.length=5 by omega];rfl
  ·have hlt:i<ns.length:=by omega
   obtain⟨h0,h1,h2,h3,h4,h5⟩:=h.cel i hlt;simp only[List.getElem_append_left hlt,if_neg he];refine⟨?_,?_,?_,?_,?_,?_⟩
   all_goals (rw[List.getElem?_append_left (by omega)];assumption)
 ·intro i hi;rw[hlen]at hi
  by_cases he:i=ns.length
  ·subst he;simp only[List.getElem_append_right (Nat.le_refl _),Nat.sub_self,List.getElem_cons_zero,hx,if_true];exact⟨rfl,Or.inl ⟨rfl,rfl⟩⟩
  ·have hlt:i<ns.length:=by omega
   simp only[List.getElem_append_left hlt,if_neg he];exact bY (h.kid i hlt) fun g' cur' _ hc=>hne _ _ _ _ hc (by decide)
 ·intro i j g' hi hj h1 h2;rw[hlen]at hi hj
  by_cases hei:i=ns.length
  ·rw[if_pos hei]at h1;cases h1
  ·by_cases hej:j=ns.length
   ·rw[if_pos hej]at h2;cases h2
   ·rw[if_neg hei]at h1;rw[if_neg hej]at h2;exact h.apart i j g' (by omega) (by omega) h1 h2
 ·intro i hi;rw[hlen]at hi
  by_cases hei:i=ns.length
  ·simp only[if_pos hei];exact fun e=>by cases e
  ·simp only[if_neg hei];exact h.far i (by omega)
theorem DtD.flag(h:DtD w B P ns m own LV OV xs ks){OV':Value}{L:Nat}(hL:m+1=L)(hm:¬m∈own)
  (ho:w1.ownsRow B 4 1 OV' L (qi m own++[.bool false])) (hg:w.grownBy w1 OV.ownBlock):DtD w1 B P ns L own LV OV' xs ks:=by
 have hne:∀(b:Nat) (cs:Array Value) (t:TypeId) (fz:Nat × Nat),w.heap[b]?=some (.cells cs t fz)->¬t=4->w1.heap[b]?=w.heap[b]?:=fun b cs t fz hb ht=>hg.block b (aG hb) (fun e=>by
  obtain⟨cc,hcc⟩:=(dO h.owr e.symm).2;exact aZ hb hcc ht rfl)
 refine⟨bY h.row fun g cur _ hc=>hne _ _ _ _ hc (by decide),h.cel,fun i hi=>bY (h.kid i hi) fun g cur _ hc=>hne _ _ _ _ hc (by decide),h.apart,?_,h.far,Nat.lt_of_lt_of_le h.hP hg.size⟩;rw[<-hL,af8 m own hm,hL];exact ho
theorem DtD.kidOwn(h:DtD w B P ns m own LV OV xs ks)(hi:i<ns.length)(hg:(ks i).ownBlock=some g):∃cur,w.heap[g]?=some (.cells cur 3 (0,0)):=(dO (h.kid i hi) hg).2
theorem DtD.kidp(h:DtD w B P ns m own (.slice (some ⟨N,0,none⟩) ns.length c) OV xs ks){L:Nat}(p:Nat)(hp:p<ns.length)(q:Nat)(hL:ns[p].ks.length+1=L)
  (ho:w1.ownsRow B 3 1 (.slice (some ⟨g,0,none⟩) L cap) L ((ns[p].ks.map fun q=>.int .i64 (q:Nat))++[.int .i64 (q:Nat)])) (hg:w.grownBy w1 (ks p).ownBlock) (hat:(ks p).ownBlock=some g\/w.heap.size<=g) :
  DtD (w1.setCell ⟨N,p*6+4,none⟩ (.slice (some ⟨g,0,none⟩) L cap)) B P (ns.set p { ns[p] with ks:=ns[p].ks++[q] }) m own (.slice (some ⟨N,0,none⟩) ns.length c) OV (xs.set (p*6+4) (.slice (some ⟨g,0,none⟩) L cap)) (fun i=>if i=p then .slice (some ⟨g,0,none⟩) L cap else ks i):=by
 obtain⟨cur,hN⟩:=(dO h.row (g:=N) rfl).2;have zx:∀(b:Nat) (cs:Array Value) (t:TypeId) (fz:Nat × Nat),w.heap[b]?=some (.cells cs t fz)->¬t=3->w1.heap[b]?=w.heap[b]?:=fun b cs t fz hb ht=>hg.block b (aG hb) (fun e=>by
  obtain⟨cc,hcc⟩:=h.kidOwn hp e.symm;exact aZ hb hcc ht rfl)
 have hN1:=zx _ _ _ _ hN (by decide);have hxl:=h.row.1;have hlen:(ns.set p { ns[p] with ks:=ns[p].ks++[q] }).length=ns.length:=by simp
 have hPw:=h.hP;have hs:∀(b:Nat) (cs:Array Value) (t:TypeId) (fz:Nat × Nat),w1.heap[b]?=some (.cells cs t fz)->¬t=48->(w1.setCell ⟨N,p*6+4,none⟩ (.slice (some ⟨g,0,none⟩) L cap)).heap[b]?=w1.heap[b]?:=fun b cs t fz hb ht=>heap_setCell_other _ _ _ _ (aZ hb (hN1.trans hN) ht)
 have fresh:∀k,k<ns.length->¬k=p->(ks k).ownBlock=some g->False:=fun k hk hne e=>by
  rcases hat with e2|e2
  ·exact hne (h.apart k p g hk hp e e2)
  ·obtain⟨cc,hcc⟩:=h.kidOwn hk e;have:=aG hcc;omega
 refine⟨?_,?_,?_,?_,?_,?_,by have:=hg.size;simp[World.setCell];omega⟩
 ·rw[hlen];have r1:=bY h.row fun g' cur' hh hc=>zx _ _ _ _ hc (by decide)
  refine⟨by rw[List.length_set];exact r1.1,?_⟩
  rcases r1.2 with⟨e1,_⟩|⟨g',cap',cu,e1,hb,hgg,hn,hm,hs,ht⟩
  ·cases e1
  ·cases e1
   refine Or.inr ⟨N,c,cu.setIfInBounds (p*6+4) _,rfl,hb,block_setCell hgg _,hn,hm,by simpa using hs,?_⟩;rw[Array.toList_setIfInBounds,List.take_set,ht]
 ·intro i hi;rw[hlen]at hi;obtain⟨h0,h1,h2,h3,h4,h5⟩:=h.cel i hi;have keep:∀j,j<xs.length->¬j=p*6+4->(xs.set (p*6+4) (.slice (some ⟨g,0,none⟩) L cap))[j]?=xs[j]?:=fun j hj hne=>List.getElem?_set_ne (fun e=>hne e.symm)
  by_cases he:i=p
  ·subst he;simp only[List.getElem_set_self,if_true];refine⟨(keep _ (by omega) (by omega)).trans h0,(keep _ (by omega) (by omega)).trans h1,(keep _ (by omega) (by omega)).trans h2,(keep _ (by omega) (by omega)).trans h3,List.getElem?_set_self (by omega),(keep _ (by omega) (by omega)).trans h5⟩
  ·have hpi:¬p=i:=fun e=>he e.symm
   simp only[List.getElem_set_ne hpi,if_neg he];refine⟨(keep _ (by omega) (by omega)).trans h0,(keep _ (by omega) (by omega)).trans h1,(keep _ (by omega) (by omega)).trans h2,(keep _ (by omega) (by omega)).trans h3,(keep _ (by omega) (by omega)).trans h4,(keep _ (by omega) (by omega)).trans h5⟩
 ·intro i hi;rw[hlen]at hi
  by_cases he:i=p
  ·subst he;simp only[List.getElem_set_self,if_true];rw[List.map_append,List.length_append,List.length_singleton,hL];exact bY ho fun g' cur' _ hc=>hs g' _ _ _ hc (by decide)
  ·have hpi:¬p=i:=fun e=>he e.symm
   simp only[List.getElem_set_ne hpi,if_neg he];refine bY (h.kid i hi) fun g' cur' hgo hc=>?_
   have e1:=hg.block g' (aG hc) (fun e=>he (h.apart i p g' hi hp hgo e.symm));exact(hs g' _ _ _ (e1.trans hc) (by decide)).trans e1
 ·intro i j g' hi hj h1 h2;rw[hlen]at hi hj
  by_cases hei:i=p
  ·by_cases hej:j=p
   ·rw[hei,hej]
   ·rw[if_pos hei]at h1;rw[if_neg hej]at h2
    cases h1
    exact(fresh j hj hej h2).elim
  ·by_cases hej:j=p
   ·rw[if_pos hej]at h2;rw[if_neg hei]at h1
    cases h2
    exact(fresh i hi hei h1).elim
   ·rw[if_neg hei]at h1;rw[if_neg hej]at h2;exact h.apart i j g' hi hj h1 h2
 ·refine bY h.owr fun g' cur' _ hc=>?_
  have e1:=zx _ _ _ _ hc (by decide);exact(hs g' _ _ _ (e1.trans hc) (by decide)).trans e1
 ·intro i hi;rw[hlen]at hi
  by_cases hei:i=p
  ·simp only[if_pos hei];intro e;have e':=Option.some.inj (show some g=some P from e)
   rcases hat with e2|e2
   ·exact h.far p hp (e' ▸ e2)
   ·omega
  ·simp only[if_neg hei];exact h.far i hi
theorem DtD.mark{O:Nat}(h:DtD w B P ns m own LV (.slice (some ⟨O,0,none⟩) m oc) xs ks)(t:Nat)(ht:t<m):DtD (w.setCell ⟨O,t,none⟩ (.bool true)) B P ns m (t :: own) LV (.slice (some ⟨O,0,none⟩) m oc) xs ks:=by
 obtain⟨cur,hO⟩:=(dO h.owr (g:=O) rfl).2;have hs:∀(b:Nat) (cs:Array Value) (t':TypeId) (fz:Nat × Nat),w.heap[b]?=some (.cells cs t' fz)->¬t'=4->(w.setCell ⟨O,t,none⟩ (.bool true)).heap[b]?=w.heap[b]?:=fun b cs t' fz hb ht'=>heap_setCell_other _ _ _ _ (aZ hb hO ht')
 refine⟨bY h.row fun g cur _ hc=>hs _ _ _ _ hc (by decide),h.cel,fun i hi=>bY (h.kid i hi) fun g cur _ hc=>hs _ _ _ _ hc (by decide),h.apart,?_,h.far,by have:=h.hP;simpa [World.setCell] using this⟩;refine⟨by rw[JU];simp,?_⟩
 rcases h.owr.2 with⟨e1,_⟩|⟨g',cap',cu,e1,hb,hgg,hn,hm,hs',ht'⟩
 ·cases e1
 ·cases e1
  refine Or.inr ⟨O,oc,cu.setIfInBounds t (.bool true),rfl,hb,block_setCell hgg _,hn,hm,by simpa using hs',?_⟩;rw[Array.toList_setIfInBounds,List.take_set,ht',af9 m own t ht]
theorem DtD.far2(h:DtD w B P ns m own LV OV xs ks){P':Nat}(hP:P'<w.heap.size)(hf:∀i,i<ns.length->(ks i).ownBlock≠some P'):DtD w B P' ns m own LV OV xs ks:=⟨h.row,h.cel,h.kid,h.apart,h.owr,hf,hP⟩
end
theorem DFr.app{V:Value}(ho:w.ownsRow B t sz V n ys)(hg:w.grownBy w' V.ownBlock)(hB:B<=w.heap.size)(hP:P<w.heap.size)(hVP:V.ownBlock≠some P)(ht:t=72\/t=48\/t=3\/t=4):DFr B P w w':=by
 cases hb:V.ownBlock with
 |none=>rw[hb]at hg;exact DFr.gb hg hB hP
 |some q=>
  rw[hb]at hg hVP;obtain⟨hq,cc,hcc⟩:=dO ho hb;exact DFr.row hg hB hP hq (fun e=>hVP (by rw[e])) hcc ht
theorem Ds.app{V:Value}{now:Nat}{q:Rs Nat}(h:Ds w R s L O now de q)(ho:w.ownsRow B t sz V n ys)(hg:w.grownBy w' V.ownBlock)(ht:¬t=72):Ds w' R s L O now de q:=by
 cases hb:V.ownBlock with
 |none=>rw[hb]at hg;exact h.grow hg
 |some g=>
  rw[hb]at hg;obtain⟨hq,cc,hcc⟩:=dO ho hb;obtain⟨i,er,p,hd⟩:=h.dd;exact h.other hg (aZ hd hcc (fun e=>ht e.symm))
section
variable {w:World} {R:Nat} {s:ByteArray} {L O:Value} {now de:Nat} {q:Rs Nat}
theorem Ds.setL(h:Ds w R s L O now de q)(v:Value):Ds (w.setCell ⟨R,2,none⟩ v) R s v O now de q:=by
 match q,h with
 | .ok i,h=>exact⟨h.1,h.2.setL v⟩
 | .error (c,p),⟨h1,j,h2,h3⟩=>exact⟨h1,j,h2,h3.setL v⟩
theorem Ds.setO(h:Ds w R s L O now de q)(v:Value):Ds (w.setCell ⟨R,3,none⟩ v) R s L v now de q:=by
 match q,h with
 | .ok i,h=>exact⟨h.1,h.2.setO v⟩
 | .error (c,p),⟨h1,j,h2,h3⟩=>exact⟨h1,j,h2,h3.setO v⟩
theorem Ds.setN(h:Ds w R s L O now de q)(m:Nat):Ds (w.setCell ⟨R,4,none⟩ (.int .i64 (m:Nat))) R s L O m de q:=by
 match q,h with
 | .ok i,h=>exact⟨h.1,h.2.setN m⟩
 | .error (c,p),⟨h1,j,h2,h3⟩=>exact⟨h1,j,h2,h3.setN m⟩
theorem Ds.setD(h:Ds w R s L O now de q)(m:Nat):Ds (w.setCell ⟨R,7,none⟩ (.int .i64 (m:Nat))) R s L O now m q:=by
 match q,h with
 | .ok i,h=>exact⟨h.1,h.2.setD m⟩
 | .error (c,p),⟨h1,j,h2,h3⟩=>exact⟨h1,j,h2,h3.setD m⟩
end
def Dt(w:World)(B P R:Nat)(s:ByteArray)(now de:Nat)(q:Rs Nat)(ns:List Tn)(own:List Nat):Prop:=B<=R/\¬P=R/\∃N c O oc xs ks,¬P=N/\¬P=O/\DtD w B P ns ns.length own (.slice (some ⟨N,0,none⟩) ns.length c) (.slice (some ⟨O,0,none⟩) ns.length oc) xs ks/\Ds w R s (.slice (some ⟨N,0,none⟩) ns.length c) (.slice (some ⟨O,0,none⟩) ns.length oc) now de q
open Go.RowKit Go.Maps Go.WideMaps Go.Joins
def oD(ns:List Tn)(t:Nat)(k:List UInt8):Int:=match aK ns t k with|some q=>(q:Int)|none=>-1
theorem Yq{α:Type}(p:α->Bool):∀(l:List α) (i:Nat) (hi:i<l.length),(∀j (hj:j<l.length),j<i->p l[j]=false)->p l[i]=true->l.find? p=some l[i]
 | x :: l,0,_,_,h=>by simp[show p x=true from h]
 | x :: l,i+1,hi,ha,h=>by
  have h0:p x=false:=ha 0 (by simp) (by omega);rw[List.find?_cons,h0];exact Yq p l i (by simpa using hi) (fun j hj hji=>ha (j+1) (by simpa using hj) (by omega)) h
theorem Yr{α:Type}(p:α->Bool):∀(l:List α),(∀j (hj:j<l.length),p l[j]=false)->l.find? p=none
 | [],_=>rfl
 | x :: l,h=>by
  have h0:p x=false:=h 0 (by simp);rw[List.find?_cons,h0];exact Yr p l fun j hj=>h (j+1) (by simpa using hj)
theorem JV(w:World)(B P:Nat)(ns:List Tn)(m:Nat)(own:List Nat)(N c:Nat)(OV:Value)(xs:List Value)(ks:Nat->Value)(t:Nat)(k:List UInt8)(h:DtD w B P ns m own (.slice (some ⟨N,0,none⟩) ns.length c) OV xs ks)(W:WF ns own)(ht:t<ns.length)(hn:ns.length<=1000000) :
  Calls prog 15 #[.slice (some ⟨N,0,none⟩) ns.length c,.int .i64 (t:Nat),.string ⟨k.toArray⟩] w fun e w'=>e=.returned (.int .i64 (oD ns t k))/\w'=w:=by
 obtain⟨-,-,-,-,e4,-,-⟩:=h.node t ht;have hrow:=h.kid t ht;obtain⟨o,cp,hv⟩:=nV hrow;rw[hv]at e4 hrow;have hks:aA ns t=ns[t].ks:=by unfold aA;rw[List.getElem?_eq_getElem ht]
 have hlen:ns[t].ks.length<=1000000:=by have:=W.len t;rw[hks]at this;omega
 have JW:Hd (oD ns t k=match (ns[t].ks.find? (iC ns k)) with|some q=>(q:Int)|none=>-1):=by
  show _=_;unfold oD;rw[qI,hks]
 have HC:Hd (∀i (hi:i<ns[t].ks.length),∃g,o=some ⟨g,0,none⟩/\w.cell? ⟨g,i,none⟩=some (.int .i64 (ns[t].ks[i]:Nat))):=fun i hi=>by
  rcases hrow.2 with⟨e1,e2⟩|⟨g,cap,cur,e1,_⟩
  ·omega
  ·injection e1 with e1 _ _
   refine⟨g,e1,?_⟩;have:=hrow.cells (g:=g) (by rw[e1];rfl) i (.int .i64 (ns[t].ks[i]:Nat)) (by rw[List.getElem?_map,List.getElem?_eq_getElem hi];rfl);rw[uA]at this;exact this
 have HL:=ae (fun i (hi:i<ns[t].ks.length)=>W.lt t _ (by rw[hks];exact List.getElem_mem hi));have HN:Hd (∀q (hq:q<ns.length),w.cell? ⟨N,q*6+1,none⟩=some (.string ⟨ns[q].ky.toArray⟩)/\iC ns k q=decide (ns[q].ky=k)):=fun q hq=>⟨(h.node q hq).2.1,by unfold iC;rw[List.getElem?_eq_getElem hq]⟩
 obtain⟨K,hK⟩:=zN (ns[t].ks);rw[hK]at JW HC HL hlen e4;obtain⟨r,hr⟩:=zN (oD ns t k);rw[hr]at JW ⊢;obtain⟨L,hL⟩:=zN (ns.length);have dG:=ae hL;obtain⟨M,hM⟩:=zN (K.length);have pR:=ae hM;rw[hL]at ht hn ⊢;rw[hM]at hlen e4;clear hrow hv hks h W hK hr hL hM;go_enter func15,ntmps15;go_wp2;go_loopw [7] (fun vi wr=>∃i:Nat,vi=.int .i64 (i:Nat)/\i<=M/\(∀j (hj:j<K.length),j<i->iC ns k K[j]=false)/\w=wr) (fun vi _=>M-(intOf vi).toNat)
 case atStart=>exact⟨0,rfl,by omega,fun j hj h=>absurd h (by omega),rfl⟩
 case round=>
  obtain⟨i,rfl,hi,hpre,rfl⟩:=hrel;have P7:=ae hpre;clear hpre
  by_cases hlt:i<M
  ·have hlt':i<K.length:=by rw[pR.o];exact hlt
   obtain⟨g,hg,cg⟩:=HC.o i hlt';have hq:=HL.o i hlt';have hkb:=HN.o K[i] hq;obtain⟨q,hqe⟩:=zN (K[i]);have nS:=ae hqe;rw[dG.o]at hq;rw[hqe]at cg hq;have hq':q<ns.length:=by rw[dG.o];exact hq
   have HKB:=ae (HN.o q hq');obtain⟨y,hy⟩:=zN ((ns[q]'hq').ky);rw[hy]at HKB;have cy:=HKB.o.1;have Yt:=ae HKB.o.2;subst hg;clear hkb hqe hy HKB
   by_cases hyk:y=k
   ·have hse:(y == k)=true:=by simpa using hyk
    have HRR:Hd (r=(q:Int)):=by
     show r=_;rw[JW.o,Yq (iC ns k) K i (by rw[pR.o];exact hlt) P7.o (by rw[nS.o,Yt.o,decide_eq_true hyk]),nS.o]
    clear hyk;go_wp2;go_ret;exact⟨dm HRR.o.symm,rfl⟩
   ·have hse:(y == k)=false:=by simpa using hyk
    have HP2:Hd (∀j (hj:j<K.length),j<i+1->iC ns k K[j]=false):=fun j hj hji=>by
     by_cases hj':j<i
     ·exact P7.o j hj hj'
     ·have e:j=i:=by omega
      subst e;rw[nS.o,Yt.o,decide_eq_false hyk]
    clear hyk;go_wp2;refine⟨⟨i+1,by go_num,by omega,HP2.o,by first|trivial|rfl⟩,?_⟩;simp[intOf];omega
  ·have ak3:M<=i:=by omega
   have HRR:Hd (r=-1):=by
    show r=_;rw[JW.o,Yr (iC ns k) K fun j hj=>P7.o j hj (by rw[pR.o]at hj;omega)]
   go_wp2;go_ret;exact⟨dm HRR.o.symm,rfl⟩
open Go.RowKit Go.Maps Go.WideMaps Go.Joins
theorem Yu:(prog.info? 48).map (fun i=>(i.zero,i.size,i.bytes))=some (some (.agg #[.int .i64 0,.string ⟨#[]⟩,.string ⟨#[]⟩,.int .i64 0,.slice none 0 0,.int .i64 0]),6,80):=by kernel_rfl
theorem Yv:(prog.info? 4).map (fun i=>(i.zero,i.size,i.bytes))=some (some (.bool false),1,1):=by kernel_rfl
theorem Yw:∀u∈([.bool false]:List Value),u.oneCell'=true:=by
 intro u hu;simp only[List.mem_cons,List.not_mem_nil,or_false]at hu
 rcases hu with rfl;rfl
def JX(x:Tn):List Value:=[.int .i64 x.kd,.string ⟨x.ky.toArray⟩,.string ⟨x.tx.toArray⟩,.int .i64 x.nu,.slice none 0 0,.int .i64 (x.pl:Nat)]
section
variable {w1 w3:World} {B P R:Nat} {s:ByteArray} {now de:Nat} {q:Rs Nat} {ns:List Tn} {m:Nat} {own:List Nat} {LV OV:Value} {xs:List Value} {ks:Nat->Value}
theorem Yx{o:Obj}(x:Tn)(hx:x.ks=[])(h:DtD w1 B P ns m own LV OV xs ks)(hR:Ds w1 R s LV OV now de q)(jA:B<=R)(qj:¬P=R)(hPL:LV.ownBlock≠some P)
  (ho:w3.ownsRow B 48 6 (.slice (some ⟨g,0,none⟩) (ns.length+1) cap) (ns.length+1) (xs++JX x)) (hg:(w1.drew.alloc o).grownBy w3 LV.ownBlock) (hat:LV.ownBlock=some g\/g=(w1.drew.alloc o).heap.size) :
  ∃xs' ks',DtD (w3.setCell ⟨R,2,none⟩ (.slice (some ⟨g,0,none⟩) (ns.length+1) cap)) B P (ns++[x]) m own (.slice (some ⟨g,0,none⟩) (ns.length+1) cap) OV xs' ks'/\Ds (w3.setCell ⟨R,2,none⟩ (.slice (some ⟨g,0,none⟩) (ns.length+1) cap)) R s (.slice (some ⟨g,0,none⟩) (ns.length+1) cap) OV now de q/\DFr B P w1 (w3.setCell ⟨R,2,none⟩ (.slice (some ⟨g,0,none⟩) (ns.length+1) cap))/\¬P=g:=by
 have g0:w1.grownBy (w1.drew.alloc o) none:=by
  have:=World.grownBy_alloc w1.drew o none;exact⟨this.os,this.tape,this.output,this.size,this.block⟩
 obtain⟨w2,hw2⟩:=zN (w1.drew.alloc o);rw[hw2]at g0 hg hat;obtain⟨i,er,p,hd⟩:=hR.dd;have hB1:=Nat.le_of_lt (Nat.lt_of_le_of_lt jA (aG hd));have h2:=h.gb g0;have hR2:=hR.grow g0;have h3:=h2.push (L:=ns.length+1) x hx rfl ho hg;have wR:=hR2.app h2.row hg (by decide);obtain⟨i3,er3,p3,hd3⟩:=wR.dd;have hB2:=Nat.le_trans hB1 g0.size;refine⟨_,_,h3.keepR hd3 (fO w3 R 2 _),wR.setL _,((DFr.gb g0 hB1 h.hP).two (DFr.app h2.row hg hB2 h2.hP hPL (Or.inr (Or.inl rfl)))).two (DFr.row (fO w3 R 2 _) (Nat.le_trans hB2 hg.size) h3.hP jA qj hd3 (Or.inl rfl)),?_⟩;intro e
 rcases hat with e1|e1
 ·exact hPL (by rw[e1,e])
 ·have:=h2.hP;omega
theorem Yy{o:Obj}(h:DtD w1 B P ns m own LV OV xs ks)(hR:Ds w1 R s LV OV now de q)(jA:B<=R)(qj:¬P=R)(F9:OV.ownBlock≠some P)(hm:¬m∈own)
  (ho:w3.ownsRow B 4 1 (.slice (some ⟨g,0,none⟩) (m+1) cap) (m+1) (qi m own++[.bool false])) (hg:(w1.alloc o).grownBy w3 OV.ownBlock) (hat:OV.ownBlock=some g\/g=(w1.alloc o).heap.size) :
  DtD (w3.setCell ⟨R,3,none⟩ (.slice (some ⟨g,0,none⟩) (m+1) cap)) B P ns (m+1) own LV (.slice (some ⟨g,0,none⟩) (m+1) cap) xs ks/\Ds (w3.setCell ⟨R,3,none⟩ (.slice (some ⟨g,0,none⟩) (m+1) cap)) R s LV (.slice (some ⟨g,0,none⟩) (m+1) cap) now de q/\DFr B P w1 (w3.setCell ⟨R,3,none⟩ (.slice (some ⟨g,0,none⟩) (m+1) cap))/\¬P=g:=by
 have g0:=World.grownBy_alloc w1 o none;obtain⟨w2,hw2⟩:=zN (w1.alloc o);rw[hw2]at g0 hg hat;obtain⟨i,er,p,hd⟩:=hR.dd;have hB1:=Nat.le_of_lt (Nat.lt_of_le_of_lt jA (aG hd));have h2:=h.gb g0;have hR2:=hR.grow g0;have h3:=h2.flag (L:=m+1) rfl hm ho hg;have wR:=hR2.app h2.owr hg (by decide);obtain⟨i3,er3,p3,hd3⟩:=wR.dd;have hB2:=Nat.le_trans hB1 g0.size;refine⟨h3.keepR hd3 (fO w3 R 3 _),wR.setO _,((DFr.gb g0 hB1 h.hP).two (DFr.app h2.owr hg hB2 h2.hP F9 (Or.inr (Or.inr (Or.inr rfl))))).two (DFr.row (fO w3 R 3 _) (Nat.le_trans hB2 hg.size) h3.hP jA qj hd3 (Or.inl rfl)),?_⟩;intro e
 rcases hat with e1|e1
 ·exact F9 (by rw[e1,e])
 ·have:=h2.hP;omega
theorem aga{M:Nat}{o:Obj}{x:Tn}(up:Nat)(hup:up<ns.length)(hpl:up<(ns++[x]).length)(h:DtD w1 B P (ns++[x]) m own (.slice (some ⟨N,0,none⟩) (ns++[x]).length c) OV xs ks)(hR:Ds w1 R s (.slice (some ⟨N,0,none⟩) (ns++[x]).length c) OV now de q)(jA:B<=R)(JY:¬P=N)(hM:((ns++[x])[up]'hpl).ks.length=M)
  (ho:w3.ownsRow B 3 1 (.slice (some ⟨g,0,none⟩) (M+1) cap) (M+1) ((((ns++[x])[up]'hpl).ks.map fun q=>Value.int .i64 (q:Nat))++[.int .i64 (ns.length:Nat)])) (hg:(w1.drew.alloc o).grownBy w3 (ks up).ownBlock) (hat:(ks up).ownBlock=some g\/g=(w1.drew.alloc o).heap.size) :
  ∃xs' ks',DtD (w3.setCell ⟨N,up*6+4,none⟩ (.slice (some ⟨g,0,none⟩) (M+1) cap)) B P (addN ns up x) m own (.slice (some ⟨N,0,none⟩) (addN ns up x).length c) OV xs' ks'/\Ds (w3.setCell ⟨N,up*6+4,none⟩ (.slice (some ⟨g,0,none⟩) (M+1) cap)) R s (.slice (some ⟨N,0,none⟩) (addN ns up x).length c) OV now de q/\DFr B P w1 (w3.setCell ⟨N,up*6+4,none⟩ (.slice (some ⟨g,0,none⟩) (M+1) cap)):=by
 have g0:w1.grownBy (w1.drew.alloc o) none:=by
  have:=World.grownBy_alloc w1.drew o none;exact⟨this.os,this.tape,this.output,this.size,this.block⟩
 obtain⟨w2,hw2⟩:=zN (w1.drew.alloc o);rw[hw2]at g0 hg hat;obtain⟨i,er,p,hd⟩:=hR.dd;have hB1:=Nat.le_of_lt (Nat.lt_of_le_of_lt jA (aG hd));have h2:=h.gb g0;have hR2:=hR.grow g0;have hB2:=Nat.le_trans hB1 g0.size;have h3:=h2.kidp (L:=M+1) up hpl ns.length (by rw[hM]) ho hg (by rcases hat with e|e;exact Or.inl e;exact Or.inr (by omega));rw[VC ns up x hup hpl]at h3;have elen:(ns++[x]).length=(addN ns up x).length:=by rw[bW];simp
 rw[elen]at h3;have wR:=hR2.app (h2.kid up hpl) hg (by decide);obtain⟨cN,mg⟩:=(dO h2.row (g:=N) rfl).2;have hN3:w3.heap[N]?=some (.cells cN 48 (0,0)):=(hg.block N (aG mg) (fun e=>by
  obtain⟨cc,hcc⟩:=h2.kidOwn hpl e.symm;exact aZ mg hcc (by decide) rfl)).trans mg
 obtain⟨i3,er3,p3,hd3⟩:=wR.dd;rw[elen]at wR;refine⟨_,_,h3,wR.other (fO w3 N _ _) (aZ hd3 hN3 (by decide)),?_⟩;exact((DFr.gb g0 hB1 h.hP).two (DFr.app (h2.kid up hpl) hg hB2 h2.hP (h2.far up hpl) (Or.inr (Or.inr (Or.inl rfl))))).two (DFr.row (fO w3 N _ _) (Nat.le_trans hB2 hg.size) (Nat.lt_of_lt_of_le h2.hP hg.size) (dO h2.row (g:=N) rfl).1 JY hN3 (Or.inr (Or.inl rfl)))
end
open Go.RowKit Go.Maps Go.WideMaps Go.Joins
theorem Yz(x:Tn):∀u∈JX x,u.oneCell'=true:=Vy x
def YA(B P R:Nat)(s:ByteArray)(now de:Nat)(q:Rs Nat)(ns:List Tn)(own:List Nat)(ns':List Tn)(w:World)(e:Ending)(w':World):Prop:=e=.returned (.int .i64 (ns.length:Nat))/\Dt w' B P R s now de q ns' own/\DFr B P w w'
theorem wS(B P R:Nat)(s:ByteArray)(now de:Nat)(q:Rs Nat)(ns:List Tn)(own:List Nat)(up:Nat)(kd nu:Int)(ky tx:List UInt8)(pl:Nat)(w:World)(h:Dt w B P R s now de q ns own)(W:WF ns own)(hup:up<ns.length)(hsz:ns.length<=1000000) :
  Calls prog 26 #[.pointer (some ⟨R,0,none⟩),.int .i64 (up:Nat),.agg #[.int .i64 kd,.string ⟨ky.toArray⟩,.string ⟨tx.toArray⟩,.int .i64 nu,.slice none 0 0,.int .i64 (pl:Nat)]] w (YA B P R s now de q ns own (addN ns up ⟨kd,ky,tx,nu,[],pl⟩) w):=by
 obtain⟨jA,qj,N,c,O,oc,xs,ks,JY,F9,hD,hS⟩:=h;obtain⟨i0,hi0,hii⟩:=Option.map_eq_some_iff.1 Yu;simp only[Prod.mk.injEq]at hii;obtain⟨hz0,hz1,hzb⟩:=hii;obtain⟨j0,hj0,hjj⟩:=Option.map_eq_some_iff.1 NR;simp only[Prod.mk.injEq]at hjj;obtain⟨hy0,hy1,hyb⟩:=hjj;obtain⟨b0,hb0,hbb⟩:=Option.map_eq_some_iff.1 Yv;simp only[Prod.mk.injEq]at hbb;obtain⟨hx0,hx1,hxb⟩:=hbb;have hone:=Yz ⟨kd,ky,tx,nu,[],pl⟩;have Gg:Hd (JX ⟨kd,ky,tx,nu,[],pl⟩=[.int .i64 kd,.string ⟨ky.toArray⟩,.string ⟨tx.toArray⟩,.int .i64 nu,.slice none 0 0,.int .i64 (pl:Nat)]):=rfl;rw[Gg.o]at hone;have NS:=Vz ns.length;have P8:=Yw;obtain⟨K,kZ⟩:=zN (w.heap.size);have eH:w.grownBy (w.alloc (.cells #[.int .i64 kd,.string ⟨ky.toArray⟩,.string ⟨tx.toArray⟩,.int .i64 nu,.slice none 0 0,.int .i64 (pl:Nat)] 48)) none:=World.grownBy_alloc w _ none;have bV:=heap_alloc_new w (.cells #[.int .i64 kd,.string ⟨ky.toArray⟩,.string ⟨tx.toArray⟩,.int .i64 nu,.slice none 0 0,.int .i64 (pl:Nat)] 48)
 have qN:(w.alloc (.cells #[.int .i64 kd,.string ⟨ky.toArray⟩,.string ⟨tx.toArray⟩,.int .i64 nu,.slice none 0 0,.int .i64 (pl:Nat)] 48)).heap.size=K+1:=by rw[World.size_alloc,kZ]
 rw[kZ]at bV;have hD1:=hD.gb eH;have hS1:=hS.grow eH;obtain⟨ii,er,pp,hdd⟩:=hS.dd;have hBs:=Nat.le_of_lt (Nat.lt_of_le_of_lt jA (aG hdd));have jo:=ae (DFr.gb eH hBs hD.hP);obtain⟨w1,hw1⟩:=zN (w.alloc (.cells #[.int .i64 kd,.string ⟨ky.toArray⟩,.string ⟨tx.toArray⟩,.int .i64 nu,.slice none 0 0,.int .i64 (pl:Nat)] 48));rw[hw1]at bV qN hD1 jo hS1;have hrow:=hD1.row;obtain⟨cN,mg⟩:=(dO hD1.row (g:=N) rfl).2;obtain⟨ii1,er1,pp1,yF⟩:=hS1.dd;have pO:Hd (some R≠(Value.slice (some ⟨N,0,none⟩) ns.length c).ownBlock):=by
  show some R≠some N;simp only[ne_eq,Option.some.injEq];exact aZ yF mg (by decide)
 obtain⟨-,-,d2,-,-,-,-,-,dfz⟩:=yF.cells;have dA:(w1.alloc (.cells #[.int .i64 kd,.string ⟨ky.toArray⟩,.string ⟨tx.toArray⟩,.int .i64 nu,.slice none 0 0,.int .i64 (pl:Nat)] 48)).cell? ⟨R,2,none⟩=some (.slice (some ⟨N,0,none⟩) ns.length c):=(World.grownBy_alloc w1 _ none).cell d2 (by simp);have xX:=ae yF;have k0:w1.cell? ⟨K,0,none⟩=some (.int .i64 kd):=by rw[aj bV];rfl
 have k1:w1.cell? ⟨K,1,none⟩=some (.string ⟨ky.toArray⟩):=by rw[aj bV];rfl
 have k2:w1.cell? ⟨K,2,none⟩=some (.string ⟨tx.toArray⟩):=by rw[aj bV];rfl
 have k3:w1.cell? ⟨K,3,none⟩=some (.int .i64 nu):=by rw[aj bV];rfl
 have k4:w1.cell? ⟨K,4,none⟩=some (.slice none 0 0):=by rw[aj bV];rfl
 have k5:w1.cell? ⟨K,5,none⟩=some (.int .i64 (pl:Nat)):=by rw[aj bV];rfl
 have HD1:=ae hD1;have dP:=ae hS1;have HW:=ae W;have fB:Hd ((w1.drew.alloc (.cells #[.int .i64 kd,.string ⟨ky.toArray⟩,.string ⟨tx.toArray⟩,.int .i64 nu,.slice none 0 0,.int .i64 (pl:Nat)] 48)).heap[K+1]?=some (.cells #[.int .i64 kd,.string ⟨ky.toArray⟩,.string ⟨tx.toArray⟩,.int .i64 nu,.slice none 0 0,.int .i64 (pl:Nat)] 48 (0,0))):=by
  have:=heap_alloc_new w1.drew (.cells #[.int .i64 kd,.string ⟨ky.toArray⟩,.string ⟨tx.toArray⟩,.int .i64 nu,.slice none 0 0,.int .i64 (pl:Nat)] 48);rw[show w1.drew.heap.size=K+1 from qN]at this;exact this
 have HP:=ae hup;have o8:Hd (¬P=R/\¬P=N/\¬P=O):=⟨qj,JY,F9⟩;have agb:Hd (¬ns.length∈own):=fun hm=>by have:=W.own _ hm;omega
 clear hD eH bV hD1 mg W hS hS1 hdd yF dfz qj JY F9;go_enter func26,ntmps26;go_upto_region 2 with fail
 go_cut [] from 13 (fun wx=>∃(g cap:Nat) (xs':List Value) (ks':Nat->Value),DtD wx B P (ns++[⟨kd,ky,tx,nu,[],pl⟩]) ns.length own (.slice (some ⟨g,0,none⟩) (ns.length+1) cap) (.slice (some ⟨O,0,none⟩) ns.length oc) xs' ks'/\Ds wx R s (.slice (some ⟨g,0,none⟩) (ns.length+1) cap) (.slice (some ⟨O,0,none⟩) ns.length oc) now de q/\DFr B P w1 wx/\¬P=g)
 case first=>
  go_region_law (refine step_append_lies _ (by rfl) _ _ _ (by rfl) B 48 i0 _ 6 80 underlying40 hi0 hz0 hz1 hzb (by rfl) (by decide) (.slice (some ⟨N,0,none⟩) ns.length c) ns.length xs (by rfl) (hrow.drew.alloc _) ⟨K+1,0,none⟩ 1 1 [.int .i64 kd,.string ⟨ky.toArray⟩,.string ⟨tx.toArray⟩,.int .i64 nu,.slice none 0 0,.int .i64 (pl:Nat)] (by rfl) (by rfl) (World.news_of_block fB.o) hone (by omega) (by unfold maxLen;omega) (by omega) (by simp;omega) _ rfl ?_;intro g cap w3 hown3 hgrow hat hlt3;have hc3:=rY d2 hgrow pO.o;have uB:w3.frozen? ⟨R,2,none⟩=false:=xW xX.o hgrow pO.o)
  all_goals (
   go_wp2_with fail;go_meet;obtain⟨xs',ks',q1,q2,q3,q4⟩:=Yx ⟨kd,ky,tx,nu,[],pl⟩ rfl HD1.o dP.o jA o8.o.1 (fun e=>o8.o.2.1 (Option.some.inj (show some N=some P from e)).symm) hown3 hgrow hat;exact⟨g,cap,xs',ks',q1,q2,q3,q4⟩)
 case rest=>
  obtain⟨N1,c1,xs1,ks1,hD2,hS2,hF2,Gh⟩:=hcut;obtain⟨ii2,er2,pp2,uS⟩:=hS2.dd;obtain⟨-,-,e2,e3,-,-,-,-,efz⟩:=uS.cells;have YB:=hD2.owr;obtain⟨cO,YC⟩:=(dO hD2.owr (g:=O) rfl).2;have yG:Hd (some R≠(Value.slice (some ⟨O,0,none⟩) ns.length oc).ownBlock):=by
   show some R≠some O;simp only[ne_eq,Option.some.injEq];exact aZ uS YC (by decide)
  have yH:=ae uS;have HD2:=ae hD2;have HS2:=ae hS2;have HF2:=ae hF2;have JZ:=ae Gh;have hBc:=Nat.le_of_lt (Nat.lt_of_le_of_lt jA (aG uS));have agc:(0:Int)<=(up:Int):=by omega
  clear hD2 hS2 hF2 Gh uS YC efz;go_upto_region 5 with(first|(at_builtin;refine wpList_append_lies _ rfl _ _ 70 rfl B 4 b0 _ 1 1 underlying70 hb0 hx0 hx1 hxb rfl (by decide) (.slice (some ⟨O,0,none⟩) ns.length oc) ns.length (qi ns.length own) rfl (YB.alloc _) ⟨wc.heap.size,0,none⟩ 1 1 [.bool false] rfl rfl (World.news_of_block (heap_alloc_new _ _)) P8 (by omega) (by unfold maxLen;omega) (by omega) (by simp;omega) _ rfl ?_;intro g cap w3 hown3 hgrow hat hlt3;have hc3:=hgrow.cell ((World.grownBy_alloc wc _ none).cell e3 (by simp)) yG.o;have uB:=Lib.frozen_of_heap ((hgrow.block R (by have:=aG yH.o;simp;omega) yG.o).trans (((World.grownBy_alloc wc _ none).block R (aG yH.o) (by simp)).trans yH.o)) 3))
  obtain⟨hD4,hS4,Gj,J3⟩:=Yy HD2.o HS2.o jA o8.o.1 (fun e=>o8.o.2.2 (Option.some.inj (show some O=some P from e)).symm) agb.o hown3 hgrow hat;obtain⟨w4,hw4⟩:=zN (w3.setCell ⟨R,3,none⟩ (.slice (some ⟨g,0,none⟩) (ns.length+1) cap));rw[hw4]at hD4 hS4 Gj ⊢;have hF5:=ae (HF2.o.two Gj);clear hw4 hown3 hgrow hat hlt3 hc3 uB HD2 HS2 HF2 Gj yH e2 e3 YB yG hBc;obtain⟨L,hL⟩:=zN ((ns++[(⟨kd,ky,tx,nu,[],pl⟩:Tn)]).length);have hL1:L=ns.length+1:=by rw[<-hL];simp
  have hpl:up<(ns++[(⟨kd,ky,tx,nu,[],pl⟩:Tn)]).length:=by simp;omega
  have hpL:up<L:=by omega
  obtain⟨ii4,er4,pp4,J4⟩:=hS4.dd;obtain⟨-,-,f2,-,-,-,-,-,ffz⟩:=J4.cells;have ni:=hD4.kid up hpl;obtain⟨o4,m4,hv4⟩:=nV ni;rw[<-hL1,<-hL]at hD4 hS4;obtain⟨-,-,-,-,e4,-,ef⟩:=hD4.node up hpl;obtain⟨cN1,hcN1⟩:=(dO hD4.row (g:=N1) rfl).2;rw[hv4]at e4 ni;have hm4:((ns++[(⟨kd,ky,tx,nu,[],pl⟩:Tn)])[up]'hpl).ks.length<=1000000:=by
   have:=HW.o.len up;unfold aA at this;rw[List.getElem?_eq_getElem HP.o]at this;simp only[]at this;rw[List.getElem_append_left HP.o];omega
  obtain⟨m,hm⟩:=zN (((ns++[(⟨kd,ky,tx,nu,[],pl⟩:Tn)])[up]'hpl).ks.length);have ak4:=ae ni;rw[hm]at hm4 hv4 e4 ni;obtain⟨ys,hys⟩:∃ys:List Value,(((ns++[(⟨kd,ky,tx,nu,[],pl⟩:Tn)])[up]'hpl).ks.map fun q=>Value.int .i64 (q:Nat))=ys:=⟨_,rfl⟩;rw[hys]at ni;have cZ:Hd (some R≠(Value.slice o4 m m4).ownBlock):=by
   show _≠_;intro e;obtain⟨cc,hcc⟩:=(dO ni e.symm).2;exact aZ J4 hcc (by decide) rfl
  have l9:Hd (some N1≠(Value.slice o4 m m4).ownBlock):=by
   show _≠_;intro e;obtain⟨cc,hcc⟩:=(dO ni e.symm).2;exact aZ hcN1 hcc (by decide) rfl
  rw[<-hL1]at f2;have e4A:(w4.alloc (.cells #[.int .i64 (ns.length:Nat)] 3)).cell? ⟨N1,up*6+4,none⟩=some (.slice o4 m m4):=(World.grownBy_alloc w4 _ none).cell e4 (by simp);have f2A:(w4.alloc (.cells #[.int .i64 (ns.length:Nat)] 3)).cell? ⟨R,2,none⟩=some (.slice (some ⟨N1,0,none⟩) L c1):=(World.grownBy_alloc w4 _ none).cell f2 (by simp);obtain⟨Z,hZ⟩:=zN (w4.heap.size);have hBZ:=Nat.le_of_lt (Nat.lt_of_le_of_lt jA (aG J4));have oK:Hd ((w4.drew.alloc (.cells #[.int .i64 (ns.length:Nat)] 3)).heap[Z]?=some (.cells #[.int .i64 (ns.length:Nat)] 3 (0,0))):=by
   have:=heap_alloc_new w4.drew (.cells #[.int .i64 (ns.length:Nat)] 3);rw[show w4.drew.heap.size=Z from hZ]at this;exact this
  have nX:=ae hcN1;have HD4:=ae hD4;have zh:=ae hS4;have NU:=ae hv4;have pR:=ae hm;have pG:=ae hys;have gX:=ae hpl;have dG:Hd ((ns++[(⟨kd,ky,tx,nu,[],pl⟩:Tn)]).length=L/\L=ns.length+1):=⟨hL,hL1⟩;have agd:=ae J3;have EH:Hd (∀(g' cap':Nat) (w3:World),w3.ownsRow B 3 1 (.slice (some ⟨g',0,none⟩) (m+1) cap') (m+1) (ys++[.int .i64 (ns.length:Nat)])->(w4.drew.alloc (.cells #[.int .i64 (ns.length:Nat)] 3)).grownBy w3 (Value.slice o4 m m4).ownBlock->((Value.slice o4 m m4).ownBlock=some g'\/g'=(w4.drew.alloc (.cells #[.int .i64 (ns.length:Nat)] 3)).heap.size)->YA B P R s now de q ns own (addN ns up ⟨kd,ky,tx,nu,[],pl⟩) w (.returned (.int .i64 (ns.length:Nat))) (w3.setCell ⟨N1,up*6+4,none⟩ (.slice (some ⟨g',0,none⟩) (m+1) cap'))):=fun g' cap' w3 a1 a2 a3=>by
   rw[<-NU.o]at a2 a3;rw[<-pG.o]at a1;obtain⟨xs',ks',q1,q2,q3⟩:=aga up HP.o gX.o HD4.o zh.o jA JZ.o pR.o a1 a2 a3;have elen:(ns++[(⟨kd,ky,tx,nu,[],pl⟩:Tn)]).length=(addN ns up ⟨kd,ky,tx,nu,[],pl⟩).length:=by rw[bW];simp
   rw[elen]at q1 q2;exact⟨rfl,⟨jA,o8.o.1,N1,c1,g,cap,xs',ks',JZ.o,agd.o,q1,q2⟩,(jo.o.two hF5.o).two q3⟩
  clear hD4 hS4 J4 hcN1 hv4 hm hys hL hL1 J3 ffz
  go_region_law (refine step_append_lies _ (by rfl) _ _ _ (by rfl) B 3 j0 _ 1 8 underlying46 hj0 hy0 hy1 hyb (by rfl) (by decide) (.slice o4 m m4) m ys (by rfl) (ni.drew.alloc _) ⟨Z,0,none⟩ 1 1 [.int .i64 (ns.length:Nat)] (by rfl) (by rfl) (World.news_of_block oK.o) NS (by omega) (by unfold maxLen;omega) (by omega) (by simp;omega) _ rfl ?_;intro g' cap' w3 hown3 hgrow hat hlt3;have hc3:=rY e4 hgrow l9.o;have uB:w3.frozen? ⟨N1,up*6+4,none⟩=false:=xW nX.o hgrow l9.o;have adg:=rY f2 hgrow cZ.o)
  all_goals (
   go_wp2_with fail;go_ret;exact EH.o g' cap' w3 hown3 hgrow hat)
open Go.RowKit Go.Maps Go.WideMaps Go.Joins
def Fq(w:World)(B P R:Nat)(s:ByteArray)(now de:Nat)(e:Int × Nat):Prop:=∃L O,Ds w R s L O now de (.error e)/\B<=R/\¬P=R/\P<w.heap.size
def Dq(w:World)(B P R:Nat)(s:ByteArray)(now de:Nat)(q:Rs Nat)(ns:List Tn)(own:List Nat):Prop:=match q with | .ok i=>Dt w B P R s now de (.ok i) ns own | .error e=>Fq w B P R s now de e
section
variable {w w':World} {B P R:Nat} {s:ByteArray} {now de:Nat} {q q':Rs Nat} {ns:List Tn} {own:List Nat}
theorem Dt.fq{e:Int × Nat}(h:Dt w B P R s now de (.error e) ns own):Fq w B P R s now de e:=by
 obtain⟨h1,h2,N,c,O,oc,xs,ks,h3,h4,h5,h6⟩:=h;exact⟨_,_,h6,h1,h2,h5.hP⟩
theorem Dt.dq(h:Dt w B P R s now de q ns own):Dq w B P R s now de q ns own:=by
 match q,h with
 | .ok i,h=>exact h
 | .error e,h=>exact h.fq
theorem Dt.base(h:Dt w B P R s now de q ns own):B<=w.heap.size/\P<w.heap.size/\R<w.heap.size:=by
 obtain⟨h1,h2,N,c,O,oc,xs,ks,h3,h4,h5,h6⟩:=h;obtain⟨i,er,p,hd⟩:=h6.dd;exact⟨Nat.le_of_lt (Nat.lt_of_le_of_lt h1 (aG hd)),h5.hP,aG hd⟩
theorem sV(hd:Ds w R s L O now de q)(hB:B<=R)(hP:¬P=R)(hPs:P<w.heap.size)(hg:w.grownBy w' (some R)):DFr B P w w':=by
 obtain⟨i,er,p,hdd⟩:=hd.dd;exact DFr.row hg (Nat.le_of_lt (Nat.lt_of_le_of_lt hB (aG hdd))) hPs hB hP hdd (Or.inl rfl)
theorem Dt.keep(h:Dt w B P R s now de q ns own)(hs:∀L O,Ds w R s L O now de q->Ds w' R s L O now de q')(hg:w.grownBy w' (some R)):Dt w' B P R s now de q' ns own/\DFr B P w w':=by
 obtain⟨h1,h2,N,c,O,oc,xs,ks,h3,h4,h5,h6⟩:=h;obtain⟨i,er,p,hdd⟩:=h6.dd;exact⟨⟨h1,h2,N,c,O,oc,xs,ks,h3,h4,h5.keepR hdd hg,hs _ _ h6⟩,sV h6 h1 h2 h5.hP hg⟩
end
theorem J5{now:Nat}{own:List Nat}{fn:Nat}{args:Array Value}(F:Rs Nat->Rs Nat)(hF:∀e,F (.error e)=.error e)(C:∀L O w q,Ds w R s L O now de q->Calls prog fn args w fun e w'=>e=.returned (.tuple #[])/\Ds w' R s L O now de (F q)/\w.grownBy w' (some R))(q:Rs Nat)(w:World)(h:Dq w B P R s now de q ns own) :
  Calls prog fn args w fun e w'=>e=.returned (.tuple #[])/\Dq w' B P R s now de (F q) ns own/\DFr B P w w':=by
 match q,h with
 | .error e,⟨L,O,h1,h2,h3,h4⟩ =>
  refine(C L O w _ h1).mono ?_;rintro e' w' ⟨rfl,a,b⟩;rw[hF]at a ⊢;exact⟨rfl,⟨L,O,a,h2,h3,Nat.lt_of_lt_of_le h4 b.size⟩,sV h1 h2 h3 h4 b⟩
 | .ok i,h =>
  obtain⟨h1,h2,N,c,O,oc,xs,ks,h3,h4,h5,h6⟩:=h;refine(C _ _ w _ h6).mono ?_;rintro e' w' ⟨rfl,a,b⟩;obtain⟨ii,er,p,hdd⟩:=h6.dd;exact⟨rfl,Dt.dq ⟨h1,h2,N,c,O,oc,xs,ks,h3,h4,h5.keepR hdd b,a⟩,sV h6 h1 h2 h5.hP b⟩
section
variable (B P R:Nat) (s:ByteArray) (now de:Nat) (ns:List Tn) (own:List Nat) (q:Rs Nat) (w:World) (h:Dq w B P R s now de q ns own) (hs:s.size<=100000)
include h hs
theorem P9(c:Int)(hc:0<=c):Calls prog 43 #[.pointer (some ⟨R,0,none⟩),.int .u8 c] w fun e w'=>e=.returned (.tuple #[])/\Dq w' B P R s now de (q.bind fun i=>must s.data.toList i c) ns own/\DFr B P w w' :=
 J5 (fun q=>q.bind fun i=>must s.data.toList i c) (fun _=>rfl) (fun L O w q h=>Nh R s L O now de q c hc w h (by omega)) q w h
theorem YD:Calls prog 38 #[.pointer (some ⟨R,0,none⟩)] w fun e w'=>e=.returned (.tuple #[])/\Dq w' B P R s now de (q.bind fun i=>.ok (bl s.data.toList i)) ns own/\DFr B P w w' :=
 J5 (fun q=>q.bind fun i=>.ok (bl s.data.toList i)) (fun _=>rfl) (fun L O w q h=>Uj R s L O now de q w h (by omega)) q w h
theorem age:Calls prog 42 #[.pointer (some ⟨R,0,none⟩)] w fun e w'=>e=.returned (.tuple #[])/\Dq w' B P R s now de (q.bind (jd s.data.toList)) ns own/\DFr B P w w' :=
 J5 (fun q=>q.bind (jd s.data.toList)) (fun _=>rfl) (fun L O w q h=>Ux R s L O now de q w h (by omega)) q w h
theorem agf:Calls prog 116 #[.pointer (some ⟨R,0,none⟩)] w fun e w'=>e=.returned (.tuple #[])/\Dq w' B P R s now de (q.bind (gap s.data.toList (s.data.toList.length+1))) ns own/\DFr B P w w' :=
 J5 (fun q=>q.bind (gap s.data.toList (s.data.toList.length+1))) (fun _=>rfl) (fun L O w q h=>ab4 R s L O now de q w h (by omega)) q w h
theorem YE(c:Int)(hc:0<=c):Calls prog 39 #[.pointer (some ⟨R,0,none⟩),.int .u8 c] w fun e w'=>e=.returned (.bool (iL s.data.toList q c))/\Dq w' B P R s now de q ns own/\DFr B P w w':=by
 match q,h with
 | .error e,⟨L,O,h1,h2,h3,h4⟩ =>
  refine(uk R s L O now de _ c hc w h1 (by omega)).mono ?_;rintro e' w' ⟨rfl,b⟩;obtain⟨ii,er,p,hdd⟩:=h1.dd;exact⟨rfl,⟨L,O,h1.grow b,h2,h3,Nat.lt_of_lt_of_le h4 b.size⟩,DFr.gb b (Nat.le_of_lt (Nat.lt_of_le_of_lt h2 (aG hdd))) h4⟩
 | .ok i,h =>
  obtain⟨h1,h2,N,c',O,oc,xs,ks,h3,h4,h5,h6⟩:=h;refine(uk R s _ _ now de _ c hc w h6 (by omega)).mono ?_;rintro e' w' ⟨rfl,b⟩;obtain⟨ii,er,p,hdd⟩:=h6.dd;exact⟨rfl,⟨h1,h2,N,c',O,oc,xs,ks,h3,h4,h5.gb b,h6.grow b⟩,DFr.gb b (Nat.le_of_lt (Nat.lt_of_le_of_lt h1 (aG hdd))) h5.hP⟩
end
theorem zX(B P R:Nat)(s:ByteArray)(now de:Nat)(ns:List Tn)(own:List Nat)(i:Nat)(w:World)(h:Dt w B P R s now de (.ok i) ns own)(c:Int)(hc:c≠0)(a:Nat) :
  Calls prog 58 #[.pointer (some ⟨R,0,none⟩),.int .i64 c,.int .i64 (a:Nat)] w fun e w'=>e=.returned (.tuple #[])/\Dt w' B P R s now de (.error (c,a)) ns own/\DFr B P w w':=by
 have h0:=h;obtain⟨h1,h2,N,c',O,oc,xs,ks,h3,h4,h5,h6⟩:=h;refine(qK R s _ _ now de i c a w h6.2).mono ?_;rintro e' w' ⟨rfl,a1,b⟩;exact⟨rfl,⟨h1,h2,N,c',O,oc,xs,ks,h3,h4,h5.keepR h6.2 b,⟨hc,i,h6.1,a1⟩⟩,sV h6 h1 h2 h5.hP b⟩
def uT(B P R:Nat)(s:ByteArray)(now de:Nat)(own:List Nat)(g:Rs (Nat × List Tn))(w:World)(e:Ending)(w':World):Prop:=e=.returned (.tuple #[])/\(∀j ns',g=.ok (j,ns')->Dt w' B P R s now de (.ok j) ns' own)/\(∀c,g=.error c->Fq w' B P R s now de c)/\DFr B P w w'
def Qa(f:Nat):Prop:=∀(B P R:Nat) (s:ByteArray) (own:List Nat) (now i up:Nat) (k:List UInt8) (p d:Nat) (ns:List Tn) (w:World),Dt w B P R s now d (.ok i) ns own->s.size<=100000->WF ns own->WT ns->up<ns.length->¬ay ns up=2->d<=8->ns.length+(s.size-i)<=700000->2*(s.size-i)+1<=f →
 Calls prog 59 #[.pointer (some ⟨R,0,none⟩),.int .i64 (up:Nat),.string ⟨k.toArray⟩,.int .i64 (p:Nat)] w (uT B P R s now d own (val s.data.toList f i up k p d ns) w)
def J6(f:Nat):Prop:=∀(B P R:Nat) (s:ByteArray) (own:List Nat) (now i up:Nat) (k:List UInt8) (p d:Nat) (ns:List Tn) (w:World),Dt w B P R s now d (.ok i) ns own->s.size<=100000->nx s.data.toList i=91->WF ns own->WT ns->up<ns.length->¬ay ns up=2->d<=8->ns.length+(s.size-i)<=700000->2*(s.size-i)<=f →
 Calls prog 86 #[.pointer (some ⟨R,0,none⟩),.int .i64 (up:Nat),.string ⟨k.toArray⟩,.int .i64 (p:Nat)] w (uT B P R s now d own (if d=8 then .error (4,i) else lst s.data.toList f (i+1) ns.length (d+1) (addN ns up ⟨1,k,[],0,[],p⟩)) w)
open Go.RowKit Go.Maps Go.WideMaps Go.Joins
def agh(B P R:Nat)(s:ByteArray)(now de:Nat)(ns:List Tn)(own:List Nat)(g:Rs (List UInt8 × Nat))(w:World)(e:Ending)(w':World):Prop:=(∀t j,g=.ok (t,j)->e=.returned (.string ⟨t.toArray⟩)/\Dt w' B P R s now de (.ok j) ns own)/\(∀c,g=.error c->∃t:List UInt8,e=.returned (.string ⟨t.toArray⟩)/\Dt w' B P R s now de (.error c) ns own)/\DFr B P w w'
theorem agi(B P R:Nat)(s:ByteArray)(now de i:Nat)(ns:List Tn)(own:List Nat)(w:World)(h:Dt w B P R s now de (.ok i) ns own)(hx:nx s.data.toList i=34)(hs:s.size<=100000) :
  Calls prog 84 #[.pointer (some ⟨R,0,none⟩)] w (agh B P R s now de ns own (str s.data.toList (s.data.toList.length+1) (i+1) []) w):=by
 have hlt:i<s.size:=by have:=bD (l:=s.data.toList) (i:=i) (by omega);simpa using this
 obtain⟨h1,h2,N,c,O,oc,xs,ks,h3,h4,h5,h6⟩:=h;refine(Wq R s _ _ now de i w h6.2 hlt hx (by omega)).mono ?_;rintro e w' ⟨a1,a2,a3⟩;refine⟨fun t j hg=>?_,fun c hg=>?_,sV h6 h1 h2 h5.hP a3⟩
 ·obtain⟨b1,b2⟩:=a1 t j hg;exact⟨b1,h1,h2,N,_,O,oc,xs,ks,h3,h4,h5.keepR h6.2 a3,b2⟩
 ·obtain⟨⟨t,-,b1⟩,b2⟩:=a2 c.1 c.2 hg;exact⟨t,b1,h1,h2,N,_,O,oc,xs,ks,h3,h4,h5.keepR h6.2 a3,b2⟩
def agj(B P R:Nat)(s:ByteArray)(now de:Nat)(ns:List Tn)(own:List Nat)(g:Rs (Int × Nat))(w:World)(e:Ending)(w':World):Prop:=(∀n j,g=.ok (n,j)->e=.returned (.int .i64 n)/\Dt w' B P R s now de (.ok j) ns own)/\(∀c,g=.error c->∃n:Int,e=.returned (.int .i64 n)/\Dt w' B P R s now de (.error c) ns own)/\DFr B P w w'
theorem agk(B P R:Nat)(s:ByteArray)(now de i:Nat)(ns:List Tn)(own:List Nat)(w:World)(h:Dt w B P R s now de (.ok i) ns own)(hi:i<s.size)(hx:nx s.data.toList i=43\/nx s.data.toList i=45\/aI (nx s.data.toList i)=true)(hs:s.size<=100000) :
  Calls prog 87 #[.pointer (some ⟨R,0,none⟩)] w (agj B P R s now de ns own (ji s.data.toList i) w):=by
 obtain⟨h1,h2,N,c,O,oc,xs,ks,h3,h4,h5,h6⟩:=h;refine(afs R s _ _ now de i w h6.2 hi (by omega) hx).mono ?_;rintro e w' ⟨a1,a2,a3⟩;refine⟨fun t j hg=>?_,fun c hg=>?_,sV h6 h1 h2 h5.hP a3⟩
 ·obtain⟨b1,b2⟩:=a1 t j hg;exact⟨b1,h1,h2,N,_,O,oc,xs,ks,h3,h4,h5.keepR h6.2 a3,b2⟩
 ·obtain⟨⟨t,b1⟩,b2⟩:=a2 c.1 c.2 hg;exact⟨t,b1,h1,h2,N,_,O,oc,xs,ks,h3,h4,h5.keepR h6.2 a3,b2⟩
theorem Dt.cells{now:Nat}{own:List Nat}(h:Dt w B P R s now de (.ok i) ns own):w.cell? ⟨R,0,none⟩=some (.string s)/\w.cell? ⟨R,1,none⟩=some (.int .i64 (i:Nat))/\w.cell? ⟨R,5,none⟩=some (.int .i64 0)/\w.cell? ⟨R,7,none⟩=some (.int .i64 (de:Nat))/\w.cell? ⟨R,4,none⟩=some (.int .i64 (now:Nat))/\i<=s.size/\∀k,w.frozen? ⟨R,k,none⟩=false:=by
 obtain⟨h1,h2,N,c,O,oc,xs,ks,h3,h4,h5,h6⟩:=h;obtain⟨c0,c1,c2,c3,c4,c5,c6,c7,cf⟩:=h6.2.cells;exact⟨c0,c1,c5,c7,c4,h6.1,cf⟩
theorem Dt.drew{now:Nat}{q:Rs Nat}{own:List Nat}(h:Dt w B P R s now de q ns own)(n:Nat):Dt (w.drewN n) B P R s now de q ns own/\DFr B P w (w.drewN n):=by
 have hb:=h.base;obtain⟨h1,h2,N,c,O,oc,xs,ks,h3,h4,h5,h6⟩:=h;have g:=az (ax w none) n;exact⟨⟨h1,h2,N,c,O,oc,xs,ks,h3,h4,h5.gb g,h6.grow g⟩,DFr.gb g hb.1 hb.2.1⟩
theorem Fq.err{now:Nat}{e:Int × Nat}(h:Fq w B P R s now de e):w.cell? ⟨R,5,none⟩=some (.int .i64 e.1)/\(e.1 == 0)=false:=by
 obtain⟨L,O,⟨h1,j,h2,h3⟩,-⟩:=h;exact⟨h3.cells.2.2.2.2.2.1,by simpa using h1⟩
def zY{α:Type}(F:α->List Tn):Rs (α × Nat)->Rs (Nat × List Tn)
 | .error e=>.error e
 | .ok (t,j)=>.ok (j,F t)
theorem agl(l:List UInt8)(f i up:Nat)(k:List UInt8)(p d:Nat)(ns:List Tn)(h:nx l i=34):val l (f+1) i up k p d ns=zY (fun t=>addN ns up ⟨3,k,t,0,[],p⟩) (str l (l.length+1) (i+1) []):=by
 rw[ut,if_pos h]
 cases str l (l.length+1) (i+1) []<;>rfl
theorem agm(l:List UInt8)(f i up:Nat)(k:List UInt8)(p d:Nat)(ns:List Tn)(h0:¬nx l i=34)(h:nx l i=43\/nx l i=45\/aI (nx l i)=true):val l (f+1) i up k p d ns=zY (fun n=>addN ns up ⟨4,k,[],n,[],p⟩) (ji l i):=by
 rw[ut,if_neg h0,if_pos h]
 cases ji l i<;>rfl
theorem agn(l:List UInt8)(f i up:Nat)(k:List UInt8)(p d:Nat)(ns:List Tn)(h:nx l i=116\/nx l i=102):val l (f+1) i up k p d ns=zY (fun n=>addN ns up ⟨5,k,[],n,[],p⟩) (l7 l i):=by
 rw[ut,if_neg (by rcases h with h|h<;>rw[h]<;>decide),if_neg (by rcases h with h|h<;>rw[h]<;>decide),if_pos h]
 cases l7 l i<;>rfl
theorem Dt.err{now:Nat}{own:List Nat}{e:Int × Nat}(h:Dt w B P R s now de (.error e) ns own):w.cell? ⟨R,5,none⟩=some (.int .i64 e.1)/\(e.1 == 0)=false:=h.fq.err
open Go.RowKit Go.Maps Go.WideMaps Go.Joins
theorem agp(f:Nat)(B P R:Nat)(s:ByteArray)(own:List Nat)(now i up:Nat)(k:List UInt8)(p d:Nat)(ns:List Tn)(w:World)(h:Dt w B P R s now d (.ok i) ns own)(hs:s.size<=100000)(W:WF ns own)(V:WT ns)(hu:up<ns.length)(hk2:¬ay ns up=2)(hd:d<=8)(hsz:ns.length+(s.size-i)<=700000)(hf:2*(s.size-i)+1<=f+1)(he:s.size<=i) :
  Calls prog 59 #[.pointer (some ⟨R,0,none⟩),.int .i64 (up:Nat),.string ⟨k.toArray⟩,.int .i64 (p:Nat)] w (uT B P R s now d own (val s.data.toList (f+1) i up k p d ns) w):=by
 have hl:s.data.toList.length=s.size:=by simp
 obtain⟨c0,c1,c5,-,-,hi,-⟩:=h.cells;have HD:=ae h;rw[ut];have hn:nx s.data.toList i=-1:=jF _ _ (by omega);rw[if_neg (by rw[hn];decide),if_neg (by rw[hn];decide),if_neg (by rw[hn];decide),if_neg (by rw[hn];decide)];have hge:decide ((s.size:Int)<=(i:Int))=true:=by simp;omega
 have uF:(s.size:Int)<=(i:Int):=by omega
 have CF:=ae (fun w (h:Dt w B P R s now d (.ok i) ns own)=>zX B P R s now d ns own i w h 2 (by decide) i);clear h hn he V W hk2;go_enter func59,ntmps59;go_wp2;go_quiet (fail);have aF:=HD.o.drew nq;have dH:=ae aF.1;have cZ:=ae aF.2;obtain⟨wA,hwA⟩:=zN (w.drewN nq);rw[hwA]at dH cZ ⊢;obtain⟨d0,d1,d5,-,-,-,-⟩:=dH.o.cells;clear hwA aF c0 c1 c5;go_wp2_with (go_at_call 58;refine(CF.o _ dH.o).mono ?_;rintro e w2 ⟨rfl,hd2,hf2⟩;have e5:=hd2.err.1);refine bodyPost_ret (results_none rfl _ _ _) rfl ?_;exact⟨rfl,fun j ns' hh=>(by cases hh),fun c hh=>(by cases hh;exact hd2.fq),cZ.o.two hf2⟩
open Go.RowKit Go.Maps Go.WideMaps Go.Joins
theorem agq(f:Nat)(CL:J6 f)(B P R:Nat)(s:ByteArray)(own:List Nat)(now i up:Nat)(k:List UInt8)(p d:Nat)(ns:List Tn)(w:World)(h:Dt w B P R s now d (.ok i) ns own)(hs:s.size<=100000)(W:WF ns own)(V:WT ns)(hu:up<ns.length)(hk2:¬ay ns up=2)(hd:d<=8)(hsz:ns.length+(s.size-i)<=700000)(hf:2*(s.size-i)+1<=f+1)(hx:nx s.data.toList i=91) :
  Calls prog 59 #[.pointer (some ⟨R,0,none⟩),.int .i64 (up:Nat),.string ⟨k.toArray⟩,.int .i64 (p:Nat)] w (uT B P R s now d own (val s.data.toList (f+1) i up k p d ns) w):=by
 have hl:s.data.toList.length=s.size:=by simp
 obtain⟨c0,c1,c5,-,-,hi,-⟩:=h.cells;have HD:=ae h;rw[ut];rw[if_neg (by rw[hx];decide),if_neg (by rw[hx];decide),if_neg (by rw[hx];decide),if_pos hx];have hlt0:i<s.size:=by have:=bD (l:=s.data.toList) (i:=i) (by omega);omega
 have hlt:=hlt0;have hge:decide ((s.size:Int)<=(i:Int))=false:=by simp;omega
 have uF:¬(s.size:Int)<=(i:Int):=by omega
 have fE:Hd (nx s.data.toList i=(s[i].toNat:Int)):=byte_at s i hlt;have q34:((s[i].toNat:Int) == 34)=false:=by rw[beq_eq_false_iff_ne,<-fE.o];rw[hx];decide
 have q91:((s[i].toNat:Int) == 91)=true:=by rw[<-fE.o,hx];rfl
 have CQ:=ae (fun w (h:Dt w B P R s now d (.ok i) ns own)=>CL B P R s own now i up k p d ns w h hs hx W V hu hk2 hd hsz (by omega));obtain⟨G,hG⟩:∃G:Rs (Nat × List Tn),(if d=8 then .error (4,i) else lst s.data.toList f (i+1) ns.length (d+1) (addN ns up ⟨1,k,[],0,[],p⟩))=G:=⟨_,rfl⟩;rw[hG]at CQ ⊢;clear h hx hG V W hk2 fE;go_enter func59,ntmps59;go_wp2;go_quiet (fail);have aF:=HD.o.drew nq;have dH:=ae aF.1;have cZ:=ae aF.2;obtain⟨wA,hwA⟩:=zN (w.drewN nq);rw[hwA]at dH cZ ⊢;obtain⟨d0,d1,d5,-,-,-,-⟩:=dH.o.cells;clear hwA aF c0 c1 c5;go_wp2;go_quiet (fail);have bg:=dH.o.drew nq;have jX:=ae bg.1;have lC:=ae (cZ.o.two bg.2);obtain⟨wB,hwB⟩:=zN (wA.drewN nq);rw[hwB]at jX lC ⊢;obtain⟨g0,g1,g5,-,-,-,-⟩:=jX.o.cells;clear hwB bg d0 d1 d5;go_wp2_with (go_at_call 86;refine(CQ.o _ jX.o).mono ?_;rintro e w2 ⟨rfl,h1,h2,hf2⟩)
 refine bodyPost_end (results_none rfl _ _ _) rfl ?_;exact⟨rfl,h1,h2,lC.o.two hf2⟩
open Go.RowKit Go.Maps Go.WideMaps Go.Joins
theorem agr(f:Nat)(B P R:Nat)(s:ByteArray)(own:List Nat)(now i up:Nat)(k:List UInt8)(p d:Nat)(ns:List Tn)(w:World)(h:Dt w B P R s now d (.ok i) ns own)(hs:s.size<=100000)(W:WF ns own)(V:WT ns)(hu:up<ns.length)(hk2:¬ay ns up=2)(hd:d<=8)(hsz:ns.length+(s.size-i)<=700000)(hf:2*(s.size-i)+1<=f+1)(hx:nx s.data.toList i=34) :
  Calls prog 59 #[.pointer (some ⟨R,0,none⟩),.int .i64 (up:Nat),.string ⟨k.toArray⟩,.int .i64 (p:Nat)] w (uT B P R s now d own (val s.data.toList (f+1) i up k p d ns) w):=by
 have hl:s.data.toList.length=s.size:=by simp
 obtain⟨c0,c1,c5,-,-,hi,-⟩:=h.cells;have HD:=ae h;rw[agl _ _ _ _ _ _ _ _ hx];have hlt0:i<s.size:=by have:=bD (l:=s.data.toList) (i:=i) (by omega);omega
 have hlt:=hlt0;have hge:decide ((s.size:Int)<=(i:Int))=false:=by simp;omega
 have uF:¬(s.size:Int)<=(i:Int):=by omega
 have fE:Hd (nx s.data.toList i=(s[i].toNat:Int)):=byte_at s i hlt;have q34:((s[i].toNat:Int) == 34)=true:=by rw[<-fE.o,hx];rfl
 have CQ:=ae (fun w (h:Dt w B P R s now d (.ok i) ns own)=>agi B P R s now d i ns own w h hx hs);have CA:=ae (fun(q:Rs Nat) (t:List UInt8) w (h:Dt w B P R s now d q ns own)=>wS B P R s now d q ns own up 3 0 k t p w h W hu (by omega));obtain⟨G,hG⟩:=zN (str s.data.toList (s.data.toList.length+1) (i+1) []);rw[hG]at CQ ⊢;obtain⟨Q,hQ⟩:∃Q:Rs (Nat × List Tn),(zY (fun t=>addN ns up ⟨3,k,t,0,[],p⟩) G)=Q:=⟨_,rfl⟩;have HQ:=ae hQ;rw[hQ];clear h hx hG hQ V W hk2 fE;go_enter func59,ntmps59;go_wp2;go_quiet (fail);have aF:=HD.o.drew nq;have dH:=ae aF.1;have cZ:=ae aF.2;obtain⟨wA,hwA⟩:=zN (w.drewN nq);rw[hwA]at dH cZ ⊢;obtain⟨d0,d1,d5,-,-,-,-⟩:=dH.o.cells;clear hwA aF c0 c1 c5;go_wp2;go_quiet (fail);have bg:=dH.o.drew nq;have jX:=ae bg.1;have lC:=ae (cZ.o.two bg.2);obtain⟨wB,hwB⟩:=zN (wA.drewN nq);rw[hwB]at jX lC ⊢
 obtain⟨g0,g1,g5,-,-,-,-⟩:=jX.o.cells;clear hwB bg d0 d1 d5;go_wp2_with (go_at_call 84;refine(CQ.o _ jX.o).mono ?_);rintro e w2 ⟨h1,h2,hf2⟩;have HF2:=ae (lC.o.two hf2);clear hf2
 match G,h1,h2,HQ with
 | .error c,_,h2,HQ =>
  obtain⟨t,rfl,hd2⟩:=h2 c rfl;have HD2:=ae hd2;have jB:Hd (Q=.error c):=HQ.o.symm;clear h2 hd2;go_wp2_with (go_at_call 26;refine(CA.o _ t _ HD2.o).mono ?_;rintro e w3 ⟨rfl,hd3,hf3⟩);refine bodyPost_end (results_none rfl _ _ _) rfl ?_;rw[jB.o];exact⟨rfl,fun j ns' hh=>(by cases hh),fun c' hh=>(by injection hh with hh;subst hh;exact hd3.fq),HF2.o.two hf3⟩
 | .ok (t,j),h1,_,HQ =>
  obtain⟨rfl,hd2⟩:=h1 t j rfl;have HD2:=ae hd2;have jB:Hd (Q=.ok (j,addN ns up ⟨3,k,t,0,[],p⟩)):=HQ.o.symm;clear h1 hd2;go_wp2_with (go_at_call 26;refine(CA.o _ t _ HD2.o).mono ?_;rintro e w3 ⟨rfl,hd3,hf3⟩);refine bodyPost_end (results_none rfl _ _ _) rfl ?_;rw[jB.o];exact⟨rfl,fun j ns' hh=>(by cases hh;exact hd3),fun c' hh=>(by cases hh),HF2.o.two hf3⟩
end Go.Proofs.YtbcfhgpfgdbjgaaGreatDoor
