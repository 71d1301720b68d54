import Derived.Test.YtbgnflcebafjjaaGreatDoorP04
import Derived.Test.YtbgnflcebafjjaaGreatDoorP11
namespace Go.Proofs.YtbgnflcebafjjaaGreatDoor
open Go.RowKit Go.Maps Go.WideMaps Go.Joins
set_option linter.unusedVariables false
def obs (n:Nat) (own:List Nat):List Value:=(List.range n).map fun i=>.bool (decide (i ∈ own))
theorem obs_len (n:Nat) (own:List Nat):(obs n own).length=n:=by simp [obs]
theorem obs_succ (n:Nat) (own:List Nat) (h:¬ n ∈ own):obs (n+1) own=obs n own++[.bool false]:=by
 unfold obs
 rw [List.range_succ,List.map_append,List.map_singleton,decide_eq_false h]
theorem obs_get (n:Nat) (own:List Nat) (t:Nat) (ht:t < n):(obs n own)[t]?=some (.bool (decide (t ∈ own))):=by
 unfold obs
 rw [List.getElem?_map,List.getElem?_range ht];rfl
theorem obs_set (n:Nat) (own:List Nat) (t:Nat) (ht:t < n):(obs n own).set t (.bool true)=obs n (t :: own):=by
 apply List.ext_getElem?
 intro i
 by_cases hi:i < n
 ·rw [obs_get n (t :: own) i hi]
  by_cases he:i=t
  ·subst he
   rw [List.getElem?_set_self (by rw [obs_len];exact hi)]
   simp
  ·rw [List.getElem?_set_ne (fun e=>he e.symm),obs_get n own i hi]
   simp [he]
 ·rw [List.getElem?_eq_none (by rw [List.length_set,obs_len];omega),List.getElem?_eq_none (by rw [obs_len];omega)]
structure DtD (w:World) (B P:Nat) (ns:List Tn) (m:Nat) (own:List Nat) (LV OV:Value) (xs:List Value) (ks:Nat->Value):Prop where
 row:w.ownsRow B 53 6 LV ns.length xs
 cel:∀i (hi:i < ns.length),xs[i * 6]?=some (.int .i64 ns[i].kd)/\xs[i * 6+1]?=some (.string ⟨ns[i].ky.toArray⟩)/\xs[i * 6+2]?=some (.string ⟨ns[i].tx.toArray⟩)/\xs[i * 6+3]?=some (.int .i64 ns[i].nu)/\xs[i * 6+4]?=some (ks i)/\xs[i * 6+5]?=some (.int .i64 (ns[i].pl:Nat))
 kid:∀i (hi:i < ns.length),w.ownsRow B 3 1 (ks i) ns[i].ks.length (ns[i].ks.map fun q=>.int .i64 (q:Nat))
 apart:∀i j g,i < ns.length->j < ns.length->(ks i).ownBlock=some g->(ks j).ownBlock=some g->i=j
 owr:w.ownsRow B 4 1 OV m (obs m own)
 far:∀i,i < ns.length->(ks i).ownBlock ≠ some P
 hP:P < w.heap.size
structure DFr (B P:Nat) (w w':World):Prop where
 bel:Below B w w'
 oth:∀(b:Nat) (cs:Array Value) (t:TypeId) (fz:Nat × Nat),w.heap[b]?=some (.cells cs t fz)->¬ t=51->¬ t=53->¬ t=3->¬ t=4->w'.heap[b]?=w.heap[b]?
 pro:w'.heap[P]?=w.heap[P]?
section
variable {w w':World} {B P:Nat} {ns:List Tn} {m:Nat} {own:List Nat} {LV OV:Value} {xs:List Value} {ks:Nat->Value}
theorem DFr.two {w1 w2:World} (h:DFr B P w w1) (h':DFr B P w1 w2):DFr B P w w2 :=
 ⟨h.bel.trans h'.bel,fun b cs t fz hb h1 h2 h3 h4=>by
  have e1:=h.oth b cs t fz hb h1 h2 h3 h4
  exact (h'.oth b cs t fz (e1.trans hb) h1 h2 h3 h4).trans e1,h'.pro.trans h.pro⟩
theorem DFr.refl (w:World):DFr B P w w:=⟨⟨rfl,rfl,rfl,Nat.le_refl _,fun _ _=>rfl⟩,fun _ _ _ _ _ _ _ _ _=>rfl,rfl⟩
theorem DFr.gb (hg:w.grownBy w' none) (hB:B<=w.heap.size) (hP:P < w.heap.size):DFr B P w w' :=
 ⟨⟨hg.os,hg.tape,hg.output,hg.size,fun k hk=>hg.block k (by omega) (by simp)⟩,fun b cs t fz hb _ _ _ _=>hg.block b (blk_lt hb) (by simp),hg.block P hP (by simp)⟩
theorem DFr.row {t:TypeId} {g:Nat} {cur:Array Value} {fz:Nat × Nat} (hg:w.grownBy w' (some g)) (hB:B<=w.heap.size) (hP:P < w.heap.size) (hgB:B<=g) (hgP:¬ P=g) (hb:w.heap[g]?=some (.cells cur t fz)) (ht:t=51\/t=53\/t=3\/t=4):DFr B P w w' :=
 ⟨⟨hg.os,hg.tape,hg.output,hg.size,fun k hk=>hg.block k (by omega) (by simp;omega)⟩,fun b cs t' fz' hb' h1 h2 h3 h4=>hg.block b (blk_lt hb') (by
  simp only [ne_eq,Option.some.injEq]
  refine ne_typ hb' hb ?_
  rcases ht with rfl | rfl | rfl | rfl
  ·exact h1
  ·exact h2
  ·exact h3
  ·exact h4),hg.block P hP (by simpa using hgP)⟩
theorem DFr.size (h:DFr B P w w'):w.heap.size<=w'.heap.size:=h.bel.size
theorem DtD.keeps (h:DtD w B P ns m own LV OV xs ks) (hsz:w.heap.size<=w'.heap.size) (hk:∀(b:Nat) (cs:Array Value) (t:TypeId) (fz:Nat × Nat),w.heap[b]?=some (.cells cs t fz)->(t=53\/t=3\/t=4)->w'.heap[b]?=w.heap[b]?):DtD w' B P ns m own LV OV xs ks :=
 ⟨own_block h.row fun g cur _ hc=>hk _ _ _ _ hc (Or.inl rfl),h.cel,fun i hi=>own_block (h.kid i hi) fun g cur _ hc=>hk _ _ _ _ hc (Or.inr (Or.inl rfl)),h.apart,own_block h.owr fun g cur _ hc=>hk _ _ _ _ hc (Or.inr (Or.inr rfl)),h.far,Nat.lt_of_lt_of_le h.hP hsz⟩
theorem DtD.gb (h:DtD w B P ns m own LV OV xs ks) (hg:w.grownBy w' none):DtD w' B P ns m own LV OV xs ks:=h.keeps hg.size fun b cs t fz hb _=>hg.block b (blk_lt hb) (by simp)
theorem DtD.keepR {R:Nat} {s:ByteArray} {L O:Value} {now de i:Nat} {er:Int} {p:Nat} (h:DtD w B P ns m own LV OV xs ks) (hR:Dd w R s L O now de i er p) (hg:w.grownBy w' (some R)):DtD w' B P ns m own LV OV xs ks :=
 h.keeps hg.size fun b cs t fz hb ht=>hg.block b (blk_lt hb) (by
  simp only [ne_eq,Option.some.injEq]
  refine ne_typ hb hR ?_
  rcases ht with rfl | rfl | rfl <;> decide)
theorem Ds.dd {R:Nat} {s:ByteArray} {L O:Value} {now de:Nat} {q:Rs Nat} (h:Ds w R s L O now de q):∃i er p,Dd w R s L O now de i er p:=by
 match q,h with
 | .ok i,h=>exact ⟨_,_,_,h.2⟩
 | .error (c,p),⟨_,j,_,h3⟩=>exact ⟨_,_,_,h3⟩
theorem Ds.other {R g:Nat} {s:ByteArray} {L O:Value} {now de:Nat} {q:Rs Nat} (h:Ds w R s L O now de q) (hg:w.grownBy w' (some g)) (hne:¬ R=g):Ds w' R s L O now de q:=by
 have key:∀i er p,Dd w R s L O now de i er p->Dd w' R s L O now de i er p:=fun i er p hd=>(hg.block R (blk_lt hd) (by simpa using hne)).trans hd
 match q,h with
 | .ok i,h=>exact ⟨h.1,key _ _ _ h.2⟩
 | .error (c,p),⟨h1,j,h2,h3⟩=>exact ⟨h1,j,h2,key _ _ _ h3⟩
theorem DtD.node {N c:Nat} (h:DtD w B P ns m own (.slice (some ⟨N,0,none⟩) ns.length c) OV xs ks) (i:Nat) (hi:i < ns.length):w.cell? ⟨N,i * 6,none⟩=some (.int .i64 ns[i].kd)/\w.cell? ⟨N,i * 6+1,none⟩=some (.string ⟨ns[i].ky.toArray⟩)/\w.cell? ⟨N,i * 6+2,none⟩=some (.string ⟨ns[i].tx.toArray⟩)/\w.cell? ⟨N,i * 6+3,none⟩=some (.int .i64 ns[i].nu)/\w.cell? ⟨N,i * 6+4,none⟩=some (ks i)/\w.cell? ⟨N,i * 6+5,none⟩=some (.int .i64 (ns[i].pl:Nat))/\∀k,w.frozen? ⟨N,k,none⟩=false:=by
 obtain ⟨h0,h1,h2,h3,h4,h5⟩:=h.cel i hi
 have key:∀j u,xs[j]?=some u->w.cell? ⟨N,j,none⟩=some u:=fun j u hu=>by
  have:=h.row.cells (g:=N) rfl j u hu
  rw [zero_off] at this
  exact this
 obtain ⟨cur,hc⟩:=(own_typ h.row rfl).2
 exact ⟨key _ _ h0,key _ _ h1,key _ _ h2,key _ _ h3,key _ _ h4,key _ _ h5,fun k=>Lib.frozen_of_heap hc k⟩
theorem DtD.flagAt {O oc:Nat} (h:DtD w B P ns m own LV (.slice (some ⟨O,0,none⟩) m oc) xs ks) (t:Nat) (ht:t < m):w.cell? ⟨O,t,none⟩=some (.bool (decide (t ∈ own)))/\w.frozen? ⟨O,t,none⟩=false:=by
 obtain ⟨cur,hc⟩:=(own_typ h.owr rfl).2
 refine ⟨?_,Lib.frozen_of_heap hc t⟩
 have:=h.owr.cells (g:=O) rfl t _ (obs_get m own t ht)
 rw [zero_off] at this
 exact this
theorem DtD.push (h:DtD w B P ns m own LV OV xs ks) {w1:World} {LV':Value} {L:Nat} (x:Tn) (hx:x.ks=[]) (hL:ns.length+1=L)
  (ho:w1.ownsRow B 53 6 LV' L (xs++[.int .i64 x.kd,.string ⟨x.ky.toArray⟩,.string ⟨x.tx.toArray⟩,.int .i64 x.nu,.slice none 0 0,.int .i64 (x.pl:Nat)])) (hg:w.grownBy w1 LV.ownBlock) :
  DtD w1 B P (ns++[x]) m own LV' OV (xs++[.int .i64 x.kd,.string ⟨x.ky.toArray⟩,.string ⟨x.tx.toArray⟩,.int .i64 x.nu,.slice none 0 0,.int .i64 (x.pl:Nat)]) (fun i=>if i=ns.length then .slice none 0 0 else ks i):=by
 have hne:∀(b:Nat) (cs:Array Value) (t:TypeId) (fz:Nat × Nat),w.heap[b]?=some (.cells cs t fz)->¬ t=53->w1.heap[b]?=w.heap[b]?:=fun b cs t fz hb ht=>hg.block b (blk_lt hb) (fun e=>by
  obtain ⟨cc,hcc⟩:=(own_typ h.row e.symm).2
  exact ne_typ hb hcc ht rfl)
 have hxl:xs.length=ns.length * 6:=h.row.1
 have hlen:(ns++[x]).length=L:=by simp [hL]
 refine ⟨?_,?_,?_,?_,own_block h.owr fun g cur _ hc=>hne _ _ _ _ hc (by decide),?_,Nat.lt_of_lt_of_le h.hP hg.size⟩
 ·rw [hlen];exact ho
 ·intro i hi
  rw [hlen] at hi
  by_cases he:i=ns.length
  ·subst he
   simp only [List.getElem_append_right (Nat.le_refl _),Nat.sub_self,List.getElem_cons_zero]
   rw [<-hxl]
   refine ⟨?_,?_,?_,?_,?_,?_⟩
   ·rw [List.getElem?_append_right (by omega),Nat.sub_self];rfl
   ·rw [List.getElem?_append_right (by omega),show xs.length+1 - xs.length=1 by omega];rfl
   ·rw [List.getElem?_append_right (by omega),show xs.length+2 - xs.length=2 by omega];rfl
   ·rw [List.getElem?_append_right (by omega),show xs.length+3 - xs.length=3 by omega];rfl
   ·rw [List.getElem?_append_right (by omega),show xs.length+4 - xs.length=4 by omega];simp
   ·rw [List.getElem?_append_right (by omega),show xs.length+5 - xs.length=5 by omega];rfl
  ·have hlt:i < ns.length:=by omega
   obtain ⟨h0,h1,h2,h3,h4,h5⟩:=h.cel i hlt
   simp only [List.getElem_append_left hlt,if_neg he]
   refine ⟨?_,?_,?_,?_,?_,?_⟩
   all_goals (rw [List.getElem?_append_left (by omega)];assumption)
 ·intro i hi
  rw [hlen] at hi
  by_cases he:i=ns.length
  ·subst he
   simp only [List.getElem_append_right (Nat.le_refl _),Nat.sub_self,List.getElem_cons_zero,hx,if_true]
   exact ⟨rfl,Or.inl ⟨rfl,rfl⟩⟩
  ·have hlt:i < ns.length:=by omega
   simp only [List.getElem_append_left hlt,if_neg he]
   exact own_block (h.kid i hlt) fun g' cur' _ hc=>hne _ _ _ _ hc (by decide)
 ·intro i j g' hi hj h1 h2
  rw [hlen] at hi hj
  by_cases hei:i=ns.length
  ·rw [if_pos hei] at h1;cases h1
  ·by_cases hej:j=ns.length
   ·rw [if_pos hej] at h2;cases h2
   ·rw [if_neg hei] at h1
    rw [if_neg hej] at h2
    exact h.apart i j g' (by omega) (by omega) h1 h2
 ·intro i hi
  rw [hlen] at hi
  by_cases hei:i=ns.length
  ·simp only [if_pos hei];exact fun e=>by cases e
  ·simp only [if_neg hei];exact h.far i (by omega)
theorem DtD.flag (h:DtD w B P ns m own LV OV xs ks) {w1:World} {OV':Value} {L:Nat} (hL:m+1=L) (hm:¬ m ∈ own)
  (ho:w1.ownsRow B 4 1 OV' L (obs m own++[.bool false])) (hg:w.grownBy w1 OV.ownBlock):DtD w1 B P ns L own LV OV' xs ks:=by
 have hne:∀(b:Nat) (cs:Array Value) (t:TypeId) (fz:Nat × Nat),w.heap[b]?=some (.cells cs t fz)->¬ t=4->w1.heap[b]?=w.heap[b]?:=fun b cs t fz hb ht=>hg.block b (blk_lt hb) (fun e=>by
  obtain ⟨cc,hcc⟩:=(own_typ h.owr e.symm).2
  exact ne_typ hb hcc ht rfl)
 refine ⟨own_block h.row fun g cur _ hc=>hne _ _ _ _ hc (by decide),h.cel,fun i hi=>own_block (h.kid i hi) fun g cur _ hc=>hne _ _ _ _ hc (by decide),h.apart,?_,h.far,Nat.lt_of_lt_of_le h.hP hg.size⟩
 rw [<-hL,obs_succ m own hm,hL]
 exact ho
theorem DtD.kidOwn (h:DtD w B P ns m own LV OV xs ks) {i:Nat} (hi:i < ns.length) {g:Nat} (hg:(ks i).ownBlock=some g):∃cur,w.heap[g]?=some (.cells cur 3 (0,0)):=(own_typ (h.kid i hi) hg).2
theorem DtD.kidp {N c:Nat} (h:DtD w B P ns m own (.slice (some ⟨N,0,none⟩) ns.length c) OV xs ks) {w1:World} {g cap L:Nat} (p:Nat) (hp:p < ns.length) (q:Nat) (hL:ns[p].ks.length+1=L)
  (ho:w1.ownsRow B 3 1 (.slice (some ⟨g,0,none⟩) L cap) L ((ns[p].ks.map fun q=>.int .i64 (q:Nat))++[.int .i64 (q:Nat)])) (hg:w.grownBy w1 (ks p).ownBlock) (hat:(ks p).ownBlock=some g\/w.heap.size<=g) :
  DtD (w1.setCell ⟨N,p * 6+4,none⟩ (.slice (some ⟨g,0,none⟩) L cap)) B P (ns.set p { ns[p] with ks:=ns[p].ks++[q] }) m own (.slice (some ⟨N,0,none⟩) ns.length c) OV (xs.set (p * 6+4) (.slice (some ⟨g,0,none⟩) L cap)) (fun i=>if i=p then .slice (some ⟨g,0,none⟩) L cap else ks i):=by
 obtain ⟨cur,hN⟩:=(own_typ h.row (g:=N) rfl).2
 have hneP:∀(b:Nat) (cs:Array Value) (t:TypeId) (fz:Nat × Nat),w.heap[b]?=some (.cells cs t fz)->¬ t=3->w1.heap[b]?=w.heap[b]?:=fun b cs t fz hb ht=>hg.block b (blk_lt hb) (fun e=>by
  obtain ⟨cc,hcc⟩:=h.kidOwn hp e.symm
  exact ne_typ hb hcc ht rfl)
 have hN1:=hneP _ _ _ _ hN (by decide)
 have hxl:xs.length=ns.length * 6:=h.row.1
 have hlen:(ns.set p { ns[p] with ks:=ns[p].ks++[q] }).length=ns.length:=by simp
 have hPw:=h.hP
 have hs:∀(b:Nat) (cs:Array Value) (t:TypeId) (fz:Nat × Nat),w1.heap[b]?=some (.cells cs t fz)->¬ t=53->(w1.setCell ⟨N,p * 6+4,none⟩ (.slice (some ⟨g,0,none⟩) L cap)).heap[b]?=w1.heap[b]?:=fun b cs t fz hb ht=>heap_setCell_other _ _ _ _ (ne_typ hb (hN1.trans hN) ht)
 have fresh:∀k,k < ns.length->¬ k=p->(ks k).ownBlock=some g->False:=fun k hk hne e=>by
  rcases hat with e2 | e2
  ·exact hne (h.apart k p g hk hp e e2)
  ·obtain ⟨cc,hcc⟩:=h.kidOwn hk e
   have:=blk_lt hcc
   omega
 refine ⟨?_,?_,?_,?_,?_,?_,by have:=hg.size;simp [World.setCell];omega⟩
 ·rw [hlen]
  have r1:w1.ownsRow B 53 6 (.slice (some ⟨N,0,none⟩) ns.length c) ns.length xs:=own_block h.row fun g' cur' hh hc=>hneP _ _ _ _ hc (by decide)
  refine ⟨by rw [List.length_set];exact r1.1,?_⟩
  rcases r1.2 with ⟨e1,_⟩ | ⟨g',cap',cu,e1,hb,hgg,hn,hm,hs,ht⟩
  ·cases e1
  ·cases e1
   refine Or.inr ⟨N,c,cu.setIfInBounds (p * 6+4) _,rfl,hb,block_setCell hgg _,hn,hm,by simpa using hs,?_⟩
   rw [Array.toList_setIfInBounds,List.take_set,ht]
 ·intro i hi
  rw [hlen] at hi
  obtain ⟨h0,h1,h2,h3,h4,h5⟩:=h.cel i hi
  have keep:∀j,j < xs.length->¬ j=p * 6+4->(xs.set (p * 6+4) (.slice (some ⟨g,0,none⟩) L cap))[j]?=xs[j]?:=fun j hj hne=>List.getElem?_set_ne (fun e=>hne e.symm)
  by_cases he:i=p
  ·subst he
   simp only [List.getElem_set_self,if_true]
   refine ⟨(keep _ (by omega) (by omega)).trans h0,(keep _ (by omega) (by omega)).trans h1,(keep _ (by omega) (by omega)).trans h2,(keep _ (by omega) (by omega)).trans h3,List.getElem?_set_self (by omega),(keep _ (by omega) (by omega)).trans h5⟩
  ·have hpi:¬ p=i:=fun e=>he e.symm
   simp only [List.getElem_set_ne hpi,if_neg he]
   refine ⟨(keep _ (by omega) (by omega)).trans h0,(keep _ (by omega) (by omega)).trans h1,(keep _ (by omega) (by omega)).trans h2,(keep _ (by omega) (by omega)).trans h3,(keep _ (by omega) (by omega)).trans h4,(keep _ (by omega) (by omega)).trans h5⟩
 ·intro i hi
  rw [hlen] at hi
  by_cases he:i=p
  ·subst he
   simp only [List.getElem_set_self,if_true]
   rw [List.map_append,List.length_append,List.length_singleton,hL]
   exact own_block ho fun g' cur' _ hc=>hs g' _ _ _ hc (by decide)
  ·have hpi:¬ p=i:=fun e=>he e.symm
   simp only [List.getElem_set_ne hpi,if_neg he]
   refine own_block (h.kid i hi) fun g' cur' hgo hc=>?_
   have e1:w1.heap[g']?=w.heap[g']?:=hg.block g' (blk_lt hc) (fun e=>he (h.apart i p g' hi hp hgo e.symm))
   exact (hs g' _ _ _ (e1.trans hc) (by decide)).trans e1
 ·intro i j g' hi hj h1 h2
  rw [hlen] at hi hj
  by_cases hei:i=p
  ·by_cases hej:j=p
   ·rw [hei,hej]
   ·rw [if_pos hei] at h1
    rw [if_neg hej] at h2
    cases h1
    exact (fresh j hj hej h2).elim
  ·by_cases hej:j=p
   ·rw [if_pos hej] at h2
    rw [if_neg hei] at h1
    cases h2
    exact (fresh i hi hei h1).elim
   ·rw [if_neg hei] at h1
    rw [if_neg hej] at h2
    exact h.apart i j g' hi hj h1 h2
 ·refine own_block h.owr fun g' cur' _ hc=>?_
  have e1:=hneP _ _ _ _ hc (by decide)
  exact (hs g' _ _ _ (e1.trans hc) (by decide)).trans e1
 ·intro i hi
  rw [hlen] at hi
  by_cases hei:i=p
  ·simp only [if_pos hei]
   intro e
   have e':g=P:=Option.some.inj (show some g=some P from e)
   rcases hat with e2 | e2
   ·exact h.far p hp (e' ▸ e2)
   ·omega
  ·simp only [if_neg hei];exact h.far i hi
theorem DtD.mark {O oc:Nat} (h:DtD w B P ns m own LV (.slice (some ⟨O,0,none⟩) m oc) xs ks) (t:Nat) (ht:t < m):DtD (w.setCell ⟨O,t,none⟩ (.bool true)) B P ns m (t :: own) LV (.slice (some ⟨O,0,none⟩) m oc) xs ks:=by
 obtain ⟨cur,hO⟩:=(own_typ h.owr (g:=O) rfl).2
 have hs:∀(b:Nat) (cs:Array Value) (t':TypeId) (fz:Nat × Nat),w.heap[b]?=some (.cells cs t' fz)->¬ t'=4->(w.setCell ⟨O,t,none⟩ (.bool true)).heap[b]?=w.heap[b]?:=fun b cs t' fz hb ht'=>heap_setCell_other _ _ _ _ (ne_typ hb hO ht')
 refine ⟨own_block h.row fun g cur _ hc=>hs _ _ _ _ hc (by decide),h.cel,fun i hi=>own_block (h.kid i hi) fun g cur _ hc=>hs _ _ _ _ hc (by decide),h.apart,?_,h.far,by have:=h.hP;simpa [World.setCell] using this⟩
 refine ⟨by rw [obs_len];simp,?_⟩
 rcases h.owr.2 with ⟨e1,_⟩ | ⟨g',cap',cu,e1,hb,hgg,hn,hm,hs',ht'⟩
 ·cases e1
 ·cases e1
  refine Or.inr ⟨O,oc,cu.setIfInBounds t (.bool true),rfl,hb,block_setCell hgg _,hn,hm,by simpa using hs',?_⟩
  rw [Array.toList_setIfInBounds,List.take_set,ht',obs_set m own t ht]
theorem DtD.far2 (h:DtD w B P ns m own LV OV xs ks) {P':Nat} (hP:P' < w.heap.size) (hf:∀i,i < ns.length->(ks i).ownBlock ≠ some P'):DtD w B P' ns m own LV OV xs ks:=⟨h.row,h.cel,h.kid,h.apart,h.owr,hf,hP⟩
end
theorem DFr.app {w w':World} {B P:Nat} {t:TypeId} {sz n:Nat} {V:Value} {ys:List Value} (ho:w.ownsRow B t sz V n ys) (hg:w.grownBy w' V.ownBlock) (hB:B<=w.heap.size) (hP:P < w.heap.size) (hVP:V.ownBlock ≠ some P) (ht:t=51\/t=53\/t=3\/t=4):DFr B P w w':=by
 cases hb:V.ownBlock with
 | none=>rw [hb] at hg;exact DFr.gb hg hB hP
 | some q =>
  rw [hb] at hg hVP
  obtain ⟨hq,cc,hcc⟩:=own_typ ho hb
  exact DFr.row hg hB hP hq (fun e=>hVP (by rw [e])) hcc ht
theorem Ds.app {w w':World} {B R:Nat} {t:TypeId} {sz n:Nat} {V:Value} {ys:List Value} {s:ByteArray} {L O:Value} {now de:Nat} {q:Rs Nat} (h:Ds w R s L O now de q) (ho:w.ownsRow B t sz V n ys) (hg:w.grownBy w' V.ownBlock) (ht:¬ t=51):Ds w' R s L O now de q:=by
 cases hb:V.ownBlock with
 | none=>rw [hb] at hg;exact h.grow hg
 | some g =>
  rw [hb] at hg
  obtain ⟨hq,cc,hcc⟩:=own_typ ho hb
  obtain ⟨i,er,p,hd⟩:=h.dd
  exact h.other hg (ne_typ hd hcc (fun e=>ht e.symm))
section
variable {w:World} {R:Nat} {s:ByteArray} {L O:Value} {now de:Nat} {q:Rs Nat}
theorem Ds.setL (h:Ds w R s L O now de q) (v:Value):Ds (w.setCell ⟨R,2,none⟩ v) R s v O now de q:=by
 match q,h with
 | .ok i,h=>exact ⟨h.1,h.2.setL v⟩
 | .error (c,p),⟨h1,j,h2,h3⟩=>exact ⟨h1,j,h2,h3.setL v⟩
theorem Ds.setO (h:Ds w R s L O now de q) (v:Value):Ds (w.setCell ⟨R,3,none⟩ v) R s L v now de q:=by
 match q,h with
 | .ok i,h=>exact ⟨h.1,h.2.setO v⟩
 | .error (c,p),⟨h1,j,h2,h3⟩=>exact ⟨h1,j,h2,h3.setO v⟩
theorem Ds.setN (h:Ds w R s L O now de q) (m:Nat):Ds (w.setCell ⟨R,4,none⟩ (.int .i64 (m:Nat))) R s L O m de q:=by
 match q,h with
 | .ok i,h=>exact ⟨h.1,h.2.setN m⟩
 | .error (c,p),⟨h1,j,h2,h3⟩=>exact ⟨h1,j,h2,h3.setN m⟩
theorem Ds.setD (h:Ds w R s L O now de q) (m:Nat):Ds (w.setCell ⟨R,7,none⟩ (.int .i64 (m:Nat))) R s L O now m q:=by
 match q,h with
 | .ok i,h=>exact ⟨h.1,h.2.setD m⟩
 | .error (c,p),⟨h1,j,h2,h3⟩=>exact ⟨h1,j,h2,h3.setD m⟩
end
def Dt (w:World) (B P R:Nat) (s:ByteArray) (now de:Nat) (q:Rs Nat) (ns:List Tn) (own:List Nat):Prop:=B<=R/\¬ P=R/\∃N c O oc xs ks,¬ P=N/\¬ P=O/\DtD w B P ns ns.length own (.slice (some ⟨N,0,none⟩) ns.length c) (.slice (some ⟨O,0,none⟩) ns.length oc) xs ks/\Ds w R s (.slice (some ⟨N,0,none⟩) ns.length c) (.slice (some ⟨O,0,none⟩) ns.length oc) now de q
end Go.Proofs.YtbgnflcebafjjaaGreatDoor
namespace Go.Proofs.YtbgnflcebafjjaaGreatDoor
open Go.RowKit Go.Joins
set_option linter.unusedVariables false
def dI (wr:World) (R:Nat):Nat:=match wr.cell? ⟨R,1,none⟩ with | some (.int _ k)=>k.toNat | _=>0
theorem dI_eq {w:World} {R:Nat} {s:ByteArray} {L O:Value} {now de i:Nat} {er:Int} {p:Nat} (h:Dd w R s L O now de i er p):dI w R=i:=by unfold dI;rw [h.cells.2.1];simp
def cmtR (l:List UInt8) (i:Nat):Rs Nat:=if (cmt l i).1=true then .ok (cmt l i).2 else .error (2,(cmt l i).2)
def crun (l:List UInt8) (i:Nat):Rs Nat:=if nx l (toR inC l i)=10\/nx l (toR inC l i)=-1 then .ok (toR inC l i) else .error (2,toR inC l i)
theorem cmtR_yes (l:List UInt8) (i:Nat) (h:nx l i=35):cmtR l i=crun l i:=by
 unfold cmtR cmt crun
 rw [if_pos h]
 by_cases h2:nx l (toR inC l i)=10\/nx l (toR inC l i)=-1
 ·simp only [if_pos h2,if_true]
 ·simp [if_neg h2]
theorem cmtR_no (l:List UInt8) (i:Nat) (h:¬ nx l i=35):cmtR l i=.ok i:=by
 unfold cmtR;rw [cmt_no l i h];rfl
theorem crun_end (l:List UInt8) (i:Nat) (h:nx l i=-1):crun l i=.ok i:=by
 unfold crun
 rw [toR_end inC l i (nx_end' h),if_pos (Or.inr h)]
theorem crun_nl (l:List UInt8) (i:Nat) (h:nx l i=10):crun l i=.ok i:=by
 unfold crun
 rw [toR_stop inC l i (by rw [h];rfl),if_pos (Or.inl h)]
theorem crun_bad (l:List UInt8) (i:Nat) (h:isBr (nx l i)=true) (h10:¬ nx l i=10) (h1:¬ nx l i=-1):crun l i=.error (2,i):=by
 unfold crun
 rw [toR_stop inC l i (by unfold inC;rw [h];simp),if_neg (by rintro (h | h);exact h10 h;exact h1 h)]
theorem crun_step (l:List UInt8) (i:Nat) (h:isBr (nx l i)=false) (h10:¬ nx l i=10) (h1:¬ nx l i=-1):crun l i=crun l (i+1):=by
 unfold crun
 have hb:=nx_bound l i
 rw [toR_step inC l i (nx_lt (by omega)) (by unfold inC;rw [h];simp [h10])]
set_option maxRecDepth 100000 in
theorem dControl_any (c:UInt8) (w:World):Calls Tryz.prog 58 #[.int .u8 (c.toNat:Int)] w fun e w'=>e=.returned (.bool (isBr (c.toNat:Int)))/\w'=w:=by
 have:=c.toNat_lt
 go_enter Tryz.func58,Tryz.ntmps58
 go_wp2
 all_goals go_ret
 all_goals (refine ⟨ret_bool ?_,rfl⟩;rw [Bool.eq_iff_iff];unfold isBr isCt;simp;try omega)
set_option maxRecDepth 100000 in
set_option maxHeartbeats 1600000 in
theorem dBlanks_any (R:Nat) (s:ByteArray) (L O:Value) (now de:Nat) (q:Rs Nat) (w:World) (h:Ds w R s L O now de q) (hs:s.size<=1048576) :
  Calls Tryz.prog 26 #[.pointer (some ⟨R,0,none⟩)] w fun e w'=>e=.returned (.tuple #[])/\Ds w' R s L O now de (q.bind fun i=>.ok (bl s.data.toList i))/\w.grownBy w' (some R):=by
 have hl:s.data.toList.length=s.size:=by simp
 have CI:Hid (∀q c w,0<=c->Ds w R s L O now de q->Calls Tryz.prog 27 #[.pointer (some ⟨R,0,none⟩),.int .u8 c] w fun e w'=>e=.returned (.bool (isQ s.data.toList q c))/\w.grownBy w' none):=fun q c w h0 h1=>dIs_any R s L O now de q c h0 w h1 hs
 have HST:Hid (∀k,k < s.size->isBl (nx s.data.toList k)=true->bl s.data.toList k=bl s.data.toList (k+1)):=fun k hk hb=>toR_step isBl _ k (by omega) hb
 have HSP:Hid (∀k,isBl (nx s.data.toList k)=false->bl s.data.toList k=k):=fun k hb=>toR_stop isBl _ k hb
 have HLT:Hid (∀k,0<=nx s.data.toList k->k < s.size):=fun k hb=>by rw [<-hl];exact nx_lt hb
 obtain ⟨J,hJ⟩:∃J:Rs Nat,(q.bind fun i=>.ok (bl s.data.toList i))=J:=⟨_,rfl⟩
 have HJ:Hid ((q.bind fun i=>.ok (bl s.data.toList i))=J):=hJ
 have H0:Hid (Ds w R s L O now de q):=h
 rw [hJ]
 clear h hJ
 go_enter Tryz.func26,Tryz.ntmps26
 go_wp2
 go_loopw [] (fun wr=>∃q:Rs Nat,Ds wr R s L O now de q/\(q.bind fun i=>.ok (bl s.data.toList i))=J/\w.grownBy wr (some R)) (fun wr=>s.size - dI wr R)
 case atStart=>exact ⟨q,H0.out,HJ.out,gb_refl _ _⟩
 case round =>
  obtain ⟨q,hds,hbl,hg⟩:=hrel
  have HG:Hid (w.grownBy wr (some R)):=hg
  have C1:Hid (∀c w,0<=c->Ds w R s L O now de q->Calls Tryz.prog 27 #[.pointer (some ⟨R,0,none⟩),.int .u8 c] w fun e w'=>e=.returned (.bool (isQ s.data.toList q c))/\w.grownBy w' none):=CI.out q
  have HDS:Hid (Ds wr R s L O now de q):=hds
  have HBL:Hid ((q.bind fun i=>.ok (bl s.data.toList i))=J):=hbl
  clear hds hbl hg
  obtain ⟨b1,hb1⟩:∃b,isQ s.data.toList q 32=b:=⟨_,rfl⟩
  obtain ⟨b2,hb2⟩:∃b,isQ s.data.toList q 9=b:=⟨_,rfl⟩
  have C32:Hid (∀w,Ds w R s L O now de q->Calls Tryz.prog 27 #[.pointer (some ⟨R,0,none⟩),.int .u8 32] w fun e w'=>e=.returned (.bool b1)/\w.grownBy w' none):=fun w h=>by rw [<-hb1];exact C1.out 32 w (by decide) h
  have C9:Hid (∀w,Ds w R s L O now de q->Calls Tryz.prog 27 #[.pointer (some ⟨R,0,none⟩),.int .u8 9] w fun e w'=>e=.returned (.bool b2)/\w.grownBy w' none):=fun w h=>by rw [<-hb2];exact C1.out 9 w (by decide) h
  have HB1:Hid (isQ s.data.toList q 32=b1):=hb1
  have HB2:Hid (isQ s.data.toList q 9=b2):=hb2
  clear hb1 hb2
  have HYES:Hid ((b1=true\/b2=true)->∃k,k < s.size/\Dd wr R s L O now de k 0 0/\(Except.ok (bl s.data.toList (k+1)):Rs Nat)=J):=fun hor=>by
   match q,HDS.out,HB1.out,HB2.out,HBL.out with
   | .error e,_,hh1,hh2,_=>
    exfalso
    unfold isQ at hh1 hh2
    subst hh1 hh2
    rcases hor with h | h <;> cases h
   | .ok k,hd,hh1,hh2,hj =>
    have hx:isBl (nx s.data.toList k)=true:=by
     unfold isQ at hh1 hh2
     unfold isBl
     subst hh1 hh2
     rcases hor with h | h
     ·have:=of_decide_eq_true h;simp [this]
     ·have:=of_decide_eq_true h;simp [this]
    have hkl:k < s.size:=HLT.out k (by unfold isBl at hx;have:=of_decide_eq_true hx;omega)
    refine ⟨k,hkl,hd.2,?_⟩
    rw [<-HST.out k hkl hx]
    exact hj
  have HNO:Hid (b1=false->b2=false->q=J):=fun h1 h2=>by
   match q,HDS.out,HB1.out,HB2.out,HBL.out with
   | .error e,_,_,_,hj=>exact hj
   | .ok k,hd,hh1,hh2,hj =>
    rw [<-hj]
    show _=Except.ok _
    rw [HSP.out k]
    unfold isQ at hh1 hh2
    unfold isBl
    rw [h1] at hh1
    rw [h2] at hh2
    have:=of_decide_eq_false hh1
    have:=of_decide_eq_false hh2
    simp [*]
  have step:∀(wx:World) (k:Nat),wr.grownBy wx none->k < s.size->Dd wr R s L O now de k 0 0->(Except.ok (bl s.data.toList (k+1)):Rs Nat)=J->(∃q:Rs Nat,Ds (wx.setCell ⟨R,1,none⟩ (.int .i64 ((k:Int)+1))) R s L O now de q/\(q.bind fun i=>.ok (bl s.data.toList i))=J/\w.grownBy (wx.setCell ⟨R,1,none⟩ (.int .i64 ((k:Int)+1))) (some R))/\s.size - dI (wx.setCell ⟨R,1,none⟩ (.int .i64 ((k:Int)+1))) R < s.size - dI wr R:=fun wx k hg hk hd hj=>by
   have hd2:=(hd.grow hg).setI (k+1)
   refine ⟨⟨.ok (k+1),⟨by omega,hd2⟩,hj,gb_set (gb_more HG.out hg) 1 _⟩,?_⟩
   have e1:=dI_eq hd2
   rw [dI_eq hd]
   have e2:(wx.setCell ⟨R,1,none⟩ (.int .i64 ((k+1:Nat):Int)))=wx.setCell ⟨R,1,none⟩ (.int .i64 ((k:Int)+1)):=rfl
   rw [e2] at e1
   rw [e1]
   omega
  have HSTEP:Hid (∀(wx:World) (k:Nat),wr.grownBy wx none->k < s.size->Dd wr R s L O now de k 0 0->(Except.ok (bl s.data.toList (k+1)):Rs Nat)=J->(∃q:Rs Nat,Ds (wx.setCell ⟨R,1,none⟩ (.int .i64 ((k:Int)+1))) R s L O now de q/\(q.bind fun i=>.ok (bl s.data.toList i))=J/\w.grownBy (wx.setCell ⟨R,1,none⟩ (.int .i64 ((k:Int)+1))) (some R))/\s.size - dI (wx.setCell ⟨R,1,none⟩ (.int .i64 ((k:Int)+1))) R < s.size - dI wr R):=step
  clear step
  cases b1 with
  | true =>
   obtain ⟨k,hk,hd,hj⟩:=HYES.out (Or.inl rfl)
   have HD:Hid (Dd wr R s L O now de k 0 0):=hd
   have HJ2:Hid ((Except.ok (bl s.data.toList (k+1)):Rs Nat)=J):=hj
   clear hd hj
   go_wp2_with (first | (go_at_call 27;refine (C32.out _ HDS.out).mono ?_))
   first | rintro e w1 rfl hg1 | rintro e w1 ⟨rfl,hg1⟩
   have HG1:Hid (wr.grownBy w1 none):=hg1
   obtain ⟨-,c1,-,-,-,-,-,-,df⟩:=(HD.out.grow hg1).cells
   have df1:=df 1
   clear hg1 df
   go_wp2
   exact HSTEP.out w1 k HG1.out hk HD.out HJ2.out
  | false =>
   cases b2 with
   | true =>
    obtain ⟨k,hk,hd,hj⟩:=HYES.out (Or.inr rfl)
    have HD:Hid (Dd wr R s L O now de k 0 0):=hd
    have HJ2:Hid ((Except.ok (bl s.data.toList (k+1)):Rs Nat)=J):=hj
    clear hd hj
    go_wp2_with (first | (go_at_call 27;refine (C32.out _ HDS.out).mono ?_))
    first | rintro e w1 rfl hg1 | rintro e w1 ⟨rfl,hg1⟩
    have HG1:Hid (wr.grownBy w1 none):=hg1
    clear hg1
    go_wp2_with (first | (go_at_call 27;refine (C9.out _ (HDS.out.grow HG1.out)).mono ?_))
    first | rintro e w2 rfl hg2 | rintro e w2 ⟨rfl,hg2⟩
    have HG2:Hid (wr.grownBy w2 none):=gb_trans HG1.out hg2
    obtain ⟨-,c1,-,-,-,-,-,-,df⟩:=(HD.out.grow HG2.out).cells
    have df1:=df 1
    clear hg2 df
    go_wp2
    exact HSTEP.out w2 k HG2.out hk HD.out HJ2.out
   | false =>
    have HQ:Hid (q=J):=HNO.out rfl rfl
    go_wp2_with (first | (go_at_call 27;refine (C32.out _ HDS.out).mono ?_))
    first | rintro e w1 rfl hg1 | rintro e w1 ⟨rfl,hg1⟩
    have HG1:Hid (wr.grownBy w1 none):=hg1
    clear hg1
    go_wp2_with (first | (go_at_call 27;refine (C9.out _ (HDS.out.grow HG1.out)).mono ?_))
    first | rintro e w2 rfl hg2 | rintro e w2 ⟨rfl,hg2⟩
    have HG2:Hid (wr.grownBy w2 none):=gb_trans HG1.out hg2
    clear hg2
    go_wp2
    refine bodyPost_end (results_none rfl _ _ _) rfl ⟨rfl,?_,gb_more HG.out HG2.out⟩
    rw [<-HQ.out];exact HDS.out.grow HG2.out
set_option linter.unusedVariables false
theorem gap_blank (l:List UInt8) (f i:Nat) (h:isBl (nx l i)=true):gap l f i=gap l f (i+1)\/f=0:=by
 cases f with
 | zero=>exact Or.inr rfl
 | succ f =>
  left
  have hi:i < l.length:=nx_lt (by unfold isBl at h;have:=of_decide_eq_true h;omega)
  have e:bl l i=bl l (i+1):=toR_step isBl l i hi h
  rw [gap_step,gap_step,e]
theorem gap_nl (l:List UInt8) (f i:Nat) (h:nx l i=10):gap l (f+1) i=gap l f (i+1):=by
 have e:bl l i=i:=toR_stop isBl l i (by rw [h];rfl)
 have e2:cmt l i=(true,i):=cmt_no l i (by rw [h];decide)
 rw [gap_step,e,e2]
 simp only [h]
 rfl
theorem gap_stop (l:List UInt8) (f i:Nat) (h:isBl (nx l i)=false) (h1:¬ nx l i=10) (h2:¬ nx l i=35):gap l (f+1) i=.ok i:=by
 have e:bl l i=i:=toR_stop isBl l i h
 have e2:cmt l i=(true,i):=cmt_no l i h2
 rw [gap_step,e,e2]
 simp [h1]
theorem gap_cmt (l:List UInt8) (f i:Nat) (h:nx l i=35):gap l (f+1) i=(cmtR l i).bind (gap l (f+1)):=by
 have e:bl l i=i:=toR_stop isBl l i (by rw [h];rfl)
 rw [gap_step,e]
 unfold cmtR
 have hc:cmt l i=if nx l (toR inC l i)=10\/nx l (toR inC l i)=-1 then (true,toR inC l i) else (false,toR inC l i):=by unfold cmt;rw [if_pos h]
 rw [hc]
 by_cases h1:nx l (toR inC l i)=10\/nx l (toR inC l i)=-1
 ·simp only [if_pos h1,if_true]
  rw [if_neg (by decide)]
  show _=gap l (f+1) (toR inC l i)
  rcases h1 with h1 | h1
  ·rw [if_pos h1,gap_nl l f _ h1]
  ·rw [if_neg (by rw [h1];decide),gap_stop l f _ (by rw [h1];rfl) (by rw [h1];decide) (by rw [h1];decide)]
 ·simp only [if_neg h1,if_true]
  rw [if_neg (by decide)]
  rfl
theorem cmtR_lt (l:List UInt8) (i j:Nat) (h:nx l i=35) (hj:cmtR l i=.ok j):i < j/\j<=l.length:=by
 have hi:i < l.length:=nx_lt (by omega)
 rw [cmtR_yes l i h,crun_step l i (by rw [h];rfl) (by rw [h];decide) (by rw [h];decide)] at hj
 have:=toR_le inC l (i+1) (by omega)
 unfold crun at hj
 split at hj
 ·injection hj with hj;omega
 ·cases hj
def satN:List UInt8->Nat->Nat
 | [],n=>n
 | c :: r,n=>satN r (if n<=99999999999999999 then 10 * n+(c.toNat - 48) else 1000000000000000000)
theorem satN_top:∀(ds:List UInt8),satN ds 1000000000000000000=1000000000000000000
 | []=>rfl
 | c :: r=>by
  unfold satN
  rw [if_neg (by omega)]
  exact satN_top r
theorem satN_low:∀(ds:List UInt8) (n a:Nat),(∀c ∈ ds,c.toNat<=57)->n < 10 ^ a->a+ds.length<=18->satN ds n=digN ds n/\digN ds n < 10 ^ (a+ds.length)
 | [],n,a,_,hn,_=>⟨rfl,hn⟩
 | c :: r,n,a,hd,hn,hl=>by
  have hc:=hd c (by simp)
  simp only [List.length_cons] at hl ⊢
  have h17:10 ^ a<=10 ^ 17:=Nat.pow_le_pow_right (by omega) (by omega)
  have hle:n<=99999999999999999:=by
   have e:(10:Nat) ^ 17=100000000000000000:=by decide
   omega
  unfold satN digN
  rw [if_pos hle]
  have hn':10 * n+(c.toNat - 48) < 10 ^ (a+1):=by rw [Nat.pow_succ];omega
  have:=satN_low r _ (a+1) (fun x hx=>hd x (by simp [hx])) hn' (by omega)
  rw [show a+1+r.length=a+(r.length+1) by omega] at this
  exact this
theorem satN_high:∀(ds:List UInt8) (n a:Nat),(∀c ∈ ds,c.toNat<=57)->10 ^ a<=n->n<=1000000000000000000->18<=a+ds.length->satN ds n=1000000000000000000
 | [],n,a,_,hn,hm,hl=>by
  have h18:10 ^ 18<=10 ^ a:=Nat.pow_le_pow_right (by omega) (by simpa using hl)
  have e:(10:Nat) ^ 18=1000000000000000000:=by decide
  show n=_
  omega
 | c :: r,n,a,hd,hn,hm,hl=>by
  have hc:=hd c (by simp)
  unfold satN
  by_cases hle:n<=99999999999999999
  ·rw [if_pos hle]
   refine satN_high r _ (a+1) (fun x hx=>hd x (by simp [hx])) (by rw [Nat.pow_succ];omega) (by omega) (by simp only [List.length_cons] at hl;omega)
  ·rw [if_neg hle]
   exact satN_top r
theorem satN_app:∀(a b:List UInt8) (n:Nat),satN (a++b) n=satN b (satN a n)
 | [],b,n=>rfl
 | c :: r,b,n=>by
  show satN (r++b) _=satN b (satN r _)
  rw [satN_app r b]
end Go.Proofs.YtbgnflcebafjjaaGreatDoor
