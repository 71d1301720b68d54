import Derived.Test.YtbgnflcebafjjaaGreatDoorA03
import Derived.Deep.RegionHeld3
import Derived.Deep.RegionLaw
import Derived.Deep.Cut
namespace Go.Proofs.YtbgnflcebafjjaaGreatDoor
open Go.RowKit Go.Maps Go.WideMaps Go.Joins
set_option linter.unusedVariables false
theorem own_block {w w':World} {B:Nat} {e:TypeId} {s:Nat} {v:Value} {n:Nat} {xs:List Value} (h:w.ownsRow B e s v n xs) (hb:∀g cur,v.ownBlock=some g->w.heap[g]?=some (.cells cur e (0,0))->w'.heap[g]?=w.heap[g]?):w'.ownsRow B e s v n xs:=by
 refine ⟨h.1,?_⟩
 rcases h.2 with h1 | ⟨g,cap,cur,rfl,h2,h3,h4⟩
 ·exact Or.inl h1
 ·exact Or.inr ⟨g,cap,cur,rfl,h2,(hb g cur rfl h3).trans h3,h4⟩
theorem own_typ {w:World} {B:Nat} {e:TypeId} {s:Nat} {v:Value} {n:Nat} {xs:List Value} (h:w.ownsRow B e s v n xs) {g:Nat} (hg:v.ownBlock=some g):B<=g/\∃cur,w.heap[g]?=some (.cells cur e (0,0)):=by
 rcases h.2 with ⟨rfl,_⟩ | ⟨g',cap,cur,rfl,h2,h3,h4⟩
 ·cases hg
 ·cases hg
  exact ⟨h2,cur,h3⟩
theorem ne_typ {w:World} {a b:Nat} {c1 c2:Array Value} {t1 t2:TypeId} {f1 f2:Nat × Nat} (h1:w.heap[a]?=some (.cells c1 t1 f1)) (h2:w.heap[b]?=some (.cells c2 t2 f2)) (h:¬ t1=t2):¬ a=b:=fun e=>by
 subst e
 rw [h1] at h2
 injection h2 with h2
 injection h2 with _ e2 _
 exact h e2
theorem ne_map {w:World} {a b:Nat} {c1:Array Value} {t1:TypeId} {f1:Nat × Nat} {es:Array MapEntry} {c:Nat} (h1:w.heap[a]?=some (.cells c1 t1 f1)) (h2:w.heap[b]?=some (.map es c)):¬ a=b:=fun e=>by
 subst e
 rw [h1] at h2
 cases h2
theorem blk_lt {w:World} {b:Nat} {o:Obj} (h:w.heap[b]?=some o):b < w.heap.size:=(Array.getElem?_eq_some_iff.1 h).1
structure TrD (w:World) (B T:Nat) (ns:List Tn) (now N c M:Nat) (xs:List Value) (ks:Nat->Value) (n:Nat) (f:Nat->List UInt8->Option (Nat × Bool)):Prop where
 blk:w.heap[T]?=some (.cells #[.slice (some ⟨N,0,none⟩) ns.length c,.map (some M),.int .i64 (now:Nat)] 64 (0,0))
 bT:B<=T
 row:w.ownsRow B 33 6 (.slice (some ⟨N,0,none⟩) ns.length c) ns.length xs
 cel:∀i (hi:i < ns.length),xs[i * 6]?=some (.int .i64 ns[i].kd)/\xs[i * 6+1]?=some (.string ⟨ns[i].ky.toArray⟩)/\xs[i * 6+2]?=some (.string ⟨ns[i].tx.toArray⟩)/\xs[i * 6+3]?=some (.int .i64 ns[i].nu)/\xs[i * 6+4]?=some (ks i)/\xs[i * 6+5]?=some (.int .i64 (ns[i].pl:Nat))
 kid:∀i (hi:i < ns.length),w.ownsRow B 3 1 (ks i) ns[i].ks.length (ns[i].ks.map fun q=>.int .i64 (q:Nat))
 apart:∀i j g,i < ns.length->j < ns.length->(ks i).ownBlock=some g->(ks j).ownBlock=some g->i=j
 map:HM w M n f
 bM:B<=M
section
variable {w w':World} {B T:Nat} {ns:List Tn} {now N c M:Nat} {xs:List Value} {ks:Nat->Value} {n:Nat} {f:Nat->List UInt8->Option (Nat × Bool)}
theorem TrD.rowT (h:TrD w B T ns now N c M xs ks n f):∃cur,w.heap[N]?=some (.cells cur 33 (0,0)):=(own_typ h.row rfl).2
theorem TrD.cells (h:TrD w B T ns now N c M xs ks n f):w.cell? ⟨T,0,none⟩=some (.slice (some ⟨N,0,none⟩) ns.length c)/\w.cell? ⟨T,1,none⟩=some (.map (some M))/\w.cell? ⟨T,2,none⟩=some (.int .i64 (now:Nat))/\∀k,w.frozen? ⟨T,k,none⟩=false :=
 ⟨by rw [Lib.cell_of_heap h.blk];rfl,by rw [Lib.cell_of_heap h.blk];rfl,by rw [Lib.cell_of_heap h.blk];rfl,fun k=>Lib.frozen_of_heap h.blk k⟩
theorem zero_off (g k:Nat):(⟨g,0,none⟩:Addr).add k=⟨g,k,none⟩:=by
 unfold Addr.add
 split
 ·rename_i h;rw [h]
 ·simp
theorem TrD.node (h:TrD w B T ns now N c M xs ks n f) (i:Nat) (hi:i < ns.length):w.cell? ⟨N,i * 6,none⟩=some (.int .i64 ns[i].kd)/\w.cell? ⟨N,i * 6+1,none⟩=some (.string ⟨ns[i].ky.toArray⟩)/\w.cell? ⟨N,i * 6+2,none⟩=some (.string ⟨ns[i].tx.toArray⟩)/\w.cell? ⟨N,i * 6+3,none⟩=some (.int .i64 ns[i].nu)/\w.cell? ⟨N,i * 6+4,none⟩=some (ks i)/\w.cell? ⟨N,i * 6+5,none⟩=some (.int .i64 (ns[i].pl:Nat))/\∀k,w.frozen? ⟨N,k,none⟩=false:=by
 obtain ⟨h0,h1,h2,h3,h4,h5⟩:=h.cel i hi
 have key:∀j u,xs[j]?=some u->w.cell? ⟨N,j,none⟩=some u:=fun j u hu=>by
  have:=h.row.cells (g:=N) rfl j u hu
  rw [zero_off] at this
  exact this
 obtain ⟨cur,hc⟩:=h.rowT
 exact ⟨key _ _ h0,key _ _ h1,key _ _ h2,key _ _ h3,key _ _ h4,key _ _ h5,fun k=>Lib.frozen_of_heap hc k⟩
def Keeps (w w':World):Prop:=(∀(b:Nat) (cs:Array Value) (t:TypeId) (fz:Nat × Nat),w.heap[b]?=some (.cells cs t fz)->(t=64\/t=33\/t=3)->w'.heap[b]?=w.heap[b]?)/\∀(b:Nat) (es:Array MapEntry) (c:Nat),w.heap[b]?=some (.map es c)->w'.heap[b]?=w.heap[b]?
theorem TrD.keeps (h:TrD w B T ns now N c M xs ks n f) (hk:Keeps w w'):TrD w' B T ns now N c M xs ks n f:=by
 refine ⟨(hk.1 _ _ _ _ h.blk (Or.inl rfl)).trans h.blk,h.bT,own_block h.row fun g cur _ hc=>hk.1 _ _ _ _ hc (Or.inr (Or.inl rfl)),h.cel,fun i hi=>own_block (h.kid i hi) fun g cur _ hc=>hk.1 _ _ _ _ hc (Or.inr (Or.inr rfl)),h.apart,?_,h.bM⟩
 obtain ⟨es,cc,hm⟩:=h.map.map
 exact h.map.block (hk.2 _ _ _ hm)
theorem keeps_gb (hg:w.grownBy w' none):Keeps w w':=⟨fun b cs t fz hb _=>hg.block b (blk_lt hb) (by simp),fun b es c hb=>hg.block b (blk_lt hb) (by simp)⟩
theorem keeps_R {R:Nat} {s:ByteArray} {i T':Nat} (h:Rd w R s i T') (hg:w.grownBy w' (some R)):Keeps w w' :=
 ⟨fun b cs t fz hb ht=>hg.block b (blk_lt hb) (by
  simp only [ne_eq,Option.some.injEq]
  refine ne_typ hb h ?_
  rcases ht with rfl | rfl | rfl <;> decide),fun b es c hb=>hg.block b (blk_lt hb) (by
  simp only [ne_eq,Option.some.injEq]
  exact fun e=>ne_map h hb e.symm)⟩
structure Fr (B:Nat) (w w':World):Prop where
 bel:Below B w w'
 oth:∀(b:Nat) (cs:Array Value) (t:TypeId) (fz:Nat × Nat),w.heap[b]?=some (.cells cs t fz)->¬ t=64->¬ t=33->¬ t=3->w'.heap[b]?=w.heap[b]?
theorem Fr.two {w1 w2:World} (h:Fr B w w1) (h':Fr B w1 w2):Fr B w w2 :=
 ⟨h.bel.trans h'.bel,fun b cs t fz hb h1 h2 h3=>by
  have e1:=h.oth b cs t fz hb h1 h2 h3
  exact (h'.oth b cs t fz (e1.trans hb) h1 h2 h3).trans e1⟩
theorem Fr.gb (hg:w.grownBy w' none) (hB:B<=w.heap.size):Fr B w w' :=
 ⟨⟨hg.os,hg.tape,hg.output,hg.size,fun k hk=>hg.block k (by omega) (by simp)⟩,fun b cs t fz hb _ _ _=>hg.block b (blk_lt hb) (by simp)⟩
theorem Fr.row {t:TypeId} {g:Nat} {cur:Array Value} {fz:Nat × Nat} (hg:w.grownBy w' (some g)) (hB:B<=w.heap.size) (hgB:B<=g) (hb:w.heap[g]?=some (.cells cur t fz)) (ht:t=64\/t=33\/t=3):Fr B w w' :=
 ⟨⟨hg.os,hg.tape,hg.output,hg.size,fun k hk=>hg.block k (by omega) (by simp;omega)⟩,fun b cs t' fz' hb' h1 h2 h3=>hg.block b (blk_lt hb') (by
  simp only [ne_eq,Option.some.injEq]
  refine ne_typ hb' hb ?_
  rcases ht with rfl | rfl | rfl
  ·exact h1
  ·exact h2
  ·exact h3)⟩
theorem Fr.mapd {M:Nat} {es:Array MapEntry} {c:Nat} (hg:w.grownBy w' (some M)) (hB:B<=w.heap.size) (hgB:B<=M) (hb:w.heap[M]?=some (.map es c)):Fr B w w' :=
 ⟨⟨hg.os,hg.tape,hg.output,hg.size,fun k hk=>hg.block k (by omega) (by simp;omega)⟩,fun b cs t' fz' hb' h1 h2 h3=>hg.block b (blk_lt hb') (by
  simp only [ne_eq,Option.some.injEq]
  exact ne_map hb' hb)⟩
theorem gb_setc (w:World) (g o:Nat) (v:Value):w.grownBy (w.setCell ⟨g,o,none⟩ v) (some g) :=
 ⟨rfl,rfl,rfl,by simp [World.setCell],fun k hk hn=>heap_setCell_other w _ k v (fun e=>hn (by rw [e]))⟩
theorem TrD.push (h:TrD w B T ns now N c M xs ks n f) {w1:World} {g cap L:Nat} (x:Tn) (hx:x.ks=[]) (hL:ns.length+1=L)
  (ho:w1.ownsRow B 33 6 (.slice (some ⟨g,0,none⟩) L cap) L (xs++[.int .i64 x.kd,.string ⟨x.ky.toArray⟩,.string ⟨x.tx.toArray⟩,.int .i64 x.nu,.slice none 0 0,.int .i64 (x.pl:Nat)])) (hg:w.grownBy w1 (some N)) :
  TrD (w1.setCell ⟨T,0,none⟩ (.slice (some ⟨g,0,none⟩) L cap)) B T (ns++[x]) now g cap M (xs++[.int .i64 x.kd,.string ⟨x.ky.toArray⟩,.string ⟨x.tx.toArray⟩,.int .i64 x.nu,.slice none 0 0,.int .i64 (x.pl:Nat)]) (fun i=>if i=ns.length then .slice none 0 0 else ks i) n f:=by
 obtain ⟨cur,hN⟩:=h.rowT
 have hT1:w1.heap[T]?=w.heap[T]?:=hg.block T (blk_lt h.blk) (by simp only [ne_eq,Option.some.injEq];exact ne_typ h.blk hN (by decide))
 have hb1:=hT1.trans h.blk
 obtain ⟨cg,hcg⟩:=(own_typ ho rfl).2
 have hxl:xs.length=ns.length * 6:=h.row.1
 have hlen:(ns++[x]).length=L:=by simp [hL]
 have hset:=block_setCell (i:=0) hb1 (.slice (some ⟨g,0,none⟩) L cap)
 refine ⟨?_,h.bT,?_,?_,?_,?_,?_,h.bM⟩
 ·rw [hlen];exact hset
 ·rw [hlen]
  exact own_block ho fun g' cur' _ hc=>heap_setCell_other _ _ _ _ (ne_typ hc hb1 (by decide))
 ·intro i hi
  rw [hlen] at hi
  by_cases he:i=ns.length
  ·subst he
   simp only [List.getElem_append_right (Nat.le_refl _),Nat.sub_self,List.getElem_cons_zero]
   rw [<-hxl]
   refine ⟨?_,?_,?_,?_,?_,?_⟩
   ·rw [List.getElem?_append_right (by omega),Nat.sub_self];rfl
   ·rw [List.getElem?_append_right (by omega),show xs.length+1 - xs.length=1 by omega];rfl
   ·rw [List.getElem?_append_right (by omega),show xs.length+2 - xs.length=2 by omega];rfl
   ·rw [List.getElem?_append_right (by omega),show xs.length+3 - xs.length=3 by omega];rfl
   ·rw [List.getElem?_append_right (by omega),show xs.length+4 - xs.length=4 by omega];simp
   ·rw [List.getElem?_append_right (by omega),show xs.length+5 - xs.length=5 by omega];rfl
  ·have hlt:i < ns.length:=by omega
   obtain ⟨h0,h1,h2,h3,h4,h5⟩:=h.cel i hlt
   simp only [List.getElem_append_left hlt,if_neg he]
   refine ⟨?_,?_,?_,?_,?_,?_⟩
   all_goals (rw [List.getElem?_append_left (by omega)];assumption)
 ·intro i hi
  rw [hlen] at hi
  by_cases he:i=ns.length
  ·subst he
   simp only [List.getElem_append_right (Nat.le_refl _),Nat.sub_self,List.getElem_cons_zero,hx,if_true]
   exact ⟨rfl,Or.inl ⟨rfl,rfl⟩⟩
  ·have hlt:i < ns.length:=by omega
   simp only [List.getElem_append_left hlt,if_neg he]
   refine own_block (h.kid i hlt) fun g' cur' _ hc=>?_
   have e1:w1.heap[g']?=w.heap[g']?:=hg.block g' (blk_lt hc) (by simp only [ne_eq,Option.some.injEq];exact ne_typ hc hN (by decide))
   exact (heap_setCell_other _ _ _ _ (ne_typ (e1.trans hc) hb1 (by decide))).trans e1
 ·intro i j g' hi hj h1 h2
  rw [hlen] at hi hj
  by_cases hei:i=ns.length
  ·rw [if_pos hei] at h1;cases h1
  ·by_cases hej:j=ns.length
   ·rw [if_pos hej] at h2;cases h2
   ·rw [if_neg hei] at h1
    rw [if_neg hej] at h2
    exact h.apart i j g' (by omega) (by omega) h1 h2
 ·obtain ⟨es,cc,hm⟩:=h.map.map
  have e1:w1.heap[M]?=w.heap[M]?:=hg.block M (blk_lt hm) (by simp only [ne_eq,Option.some.injEq];exact fun e=>ne_map hN hm e.symm)
  exact h.map.block ((heap_setCell_other _ _ _ _ (fun e=>ne_map hb1 (e1.trans hm) e.symm)).trans e1)
theorem TrD.kidOwn (h:TrD w B T ns now N c M xs ks n f) {i:Nat} (hi:i < ns.length) {g:Nat} (hg:(ks i).ownBlock=some g):∃cur,w.heap[g]?=some (.cells cur 3 (0,0)):=(own_typ (h.kid i hi) hg).2
theorem TrD.kidp (h:TrD w B T ns now N c M xs ks n f) {w1:World} {g cap L:Nat} (p:Nat) (hp:p < ns.length) (q:Nat) (hL:ns[p].ks.length+1=L)
  (ho:w1.ownsRow B 3 1 (.slice (some ⟨g,0,none⟩) L cap) L ((ns[p].ks.map fun q=>.int .i64 (q:Nat))++[.int .i64 (q:Nat)])) (hg:w.grownBy w1 (ks p).ownBlock) (hat:(ks p).ownBlock=some g\/w.heap.size<=g) :
  TrD (w1.setCell ⟨N,p * 6+4,none⟩ (.slice (some ⟨g,0,none⟩) L cap)) B T (ns.set p { ns[p] with ks:=ns[p].ks++[q] }) now N c M (xs.set (p * 6+4) (.slice (some ⟨g,0,none⟩) L cap)) (fun i=>if i=p then .slice (some ⟨g,0,none⟩) L cap else ks i) n f:=by
 obtain ⟨cur,hN⟩:=h.rowT
 have hneP:∀(b:Nat) (cs:Array Value) (t:TypeId) (fz:Nat × Nat),w.heap[b]?=some (.cells cs t fz)->¬ t=3->w1.heap[b]?=w.heap[b]?:=fun b cs t fz hb ht=>hg.block b (blk_lt hb) (fun e=>by
  obtain ⟨cc,hcc⟩:=h.kidOwn hp e.symm
  exact ne_typ hb hcc ht rfl)
 have hN1:=hneP _ _ _ _ hN (by decide)
 have hT1:=hneP _ _ _ _ h.blk (by decide)
 have hxl:xs.length=ns.length * 6:=h.row.1
 have hlen:(ns.set p { ns[p] with ks:=ns[p].ks++[q] }).length=ns.length:=by simp
 obtain ⟨cg,hcg⟩:=(own_typ ho rfl).2
 refine ⟨?_,h.bT,?_,?_,?_,?_,?_,h.bM⟩
 ·rw [hlen]
  exact (heap_setCell_other _ _ _ _ (ne_typ (hT1.trans h.blk) (hN1.trans hN) (by decide))).trans (hT1.trans h.blk)
 ·rw [hlen]
  have r1:w1.ownsRow B 33 6 (.slice (some ⟨N,0,none⟩) ns.length c) ns.length xs:=own_block h.row fun g' cur' hh hc=>hneP _ _ _ _ hc (by decide)
  refine ⟨by rw [List.length_set];exact r1.1,?_⟩
  rcases r1.2 with ⟨e1,_⟩ | ⟨g',cap',cu,e1,hb,hgg,hn,hm,hs,ht⟩
  ·cases e1
  ·cases e1
   refine Or.inr ⟨N,c,cu.setIfInBounds (p * 6+4) _,rfl,hb,block_setCell hgg _,hn,hm,by simpa using hs,?_⟩
   rw [Array.toList_setIfInBounds,List.take_set,ht]
 ·intro i hi
  rw [hlen] at hi
  obtain ⟨h0,h1,h2,h3,h4,h5⟩:=h.cel i hi
  have keep:∀j,j < xs.length->¬ j=p * 6+4->(xs.set (p * 6+4) (.slice (some ⟨g,0,none⟩) L cap))[j]?=xs[j]?:=fun j hj hne=>List.getElem?_set_ne (fun e=>hne e.symm)
  by_cases he:i=p
  ·subst he
   simp only [List.getElem_set_self,if_true]
   refine ⟨(keep _ (by omega) (by omega)).trans h0,(keep _ (by omega) (by omega)).trans h1,(keep _ (by omega) (by omega)).trans h2,(keep _ (by omega) (by omega)).trans h3,List.getElem?_set_self (by omega),(keep _ (by omega) (by omega)).trans h5⟩
  ·have hpi:¬ p=i:=fun e=>he e.symm
   simp only [List.getElem_set_ne hpi,if_neg he]
   refine ⟨(keep _ (by omega) (by omega)).trans h0,(keep _ (by omega) (by omega)).trans h1,(keep _ (by omega) (by omega)).trans h2,(keep _ (by omega) (by omega)).trans h3,(keep _ (by omega) (by omega)).trans h4,(keep _ (by omega) (by omega)).trans h5⟩
 ·intro i hi
  rw [hlen] at hi
  have hs:∀(g':Nat) (cur':Array Value),w1.heap[g']?=some (.cells cur' 3 (0,0))->(w1.setCell ⟨N,p * 6+4,none⟩ (.slice (some ⟨g,0,none⟩) L cap)).heap[g']?=w1.heap[g']?:=fun g' cur' hc=>heap_setCell_other _ _ _ _ (ne_typ hc (hN1.trans hN) (by decide))
  by_cases he:i=p
  ·subst he
   simp only [List.getElem_set_self,if_true]
   rw [List.map_append,List.length_append,List.length_singleton,hL]
   exact own_block ho fun g' cur' _ hc=>hs g' cur' hc
  ·have hpi:¬ p=i:=fun e=>he e.symm
   simp only [List.getElem_set_ne hpi,if_neg he]
   refine own_block (h.kid i hi) fun g' cur' hgo hc=>?_
   have e1:w1.heap[g']?=w.heap[g']?:=hg.block g' (blk_lt hc) (fun e=>he (h.apart i p g' hi hp hgo e.symm))
   exact (hs g' cur' (e1.trans hc)).trans e1
 ·intro i j g' hi hj h1 h2
  rw [hlen] at hi hj
  have fresh:∀k,k < ns.length->¬ k=p->(ks k).ownBlock=some g->False:=fun k hk hne e=>by
   rcases hat with e2 | e2
   ·exact hne (h.apart k p g hk hp e e2)
   ·obtain ⟨cc,hcc⟩:=h.kidOwn hk e
    have:=blk_lt hcc
    omega
  by_cases hei:i=p
  ·by_cases hej:j=p
   ·rw [hei,hej]
   ·rw [if_pos hei] at h1
    rw [if_neg hej] at h2
    cases h1
    exact (fresh j hj hej h2).elim
  ·by_cases hej:j=p
   ·rw [if_pos hej] at h2
    rw [if_neg hei] at h1
    cases h2
    exact (fresh i hi hei h1).elim
   ·rw [if_neg hei] at h1
    rw [if_neg hej] at h2
    exact h.apart i j g' hi hj h1 h2
 ·obtain ⟨es,cc,hm⟩:=h.map.map
  have e1:w1.heap[M]?=w.heap[M]?:=hg.block M (blk_lt hm) (fun e=>by
   obtain ⟨cc,hcc⟩:=h.kidOwn hp e.symm
   exact ne_map hcc hm rfl)
  exact h.map.block ((heap_setCell_other _ _ _ _ (fun e=>ne_map (hN1.trans hN) (e1.trans hm) e.symm)).trans e1)
theorem TrD.mapd (h:TrD w B T ns now N c M xs ks n f) {n':Nat} {f':Nat->List UInt8->Option (Nat × Bool)} (hm:HM w' M n' f') (hg:w.grownBy w' (some M)):TrD w' B T ns now N c M xs ks n' f':=by
 obtain ⟨es,cc,hm0⟩:=h.map.map
 have hb:∀(b:Nat) (cs:Array Value) (t:TypeId) (fz:Nat × Nat),w.heap[b]?=some (.cells cs t fz)->w'.heap[b]?=w.heap[b]?:=fun b cs t fz hb=>hg.block b (blk_lt hb) (by simp only [ne_eq,Option.some.injEq];exact ne_map hb hm0)
 exact ⟨(hb _ _ _ _ h.blk).trans h.blk,h.bT,own_block h.row fun g cur _ hc=>hb _ _ _ _ hc,h.cel,fun i hi=>own_block (h.kid i hi) fun g cur _ hc=>hb _ _ _ _ hc,h.apart,hm,h.bM⟩
theorem TrD.hand (h:TrD w B T ns now N c M xs ks n f) (m:Nat):TrD (w.setCell ⟨T,2,none⟩ (.int .i64 (m:Nat))) B T ns m N c M xs ks n f:=by
 have hb:∀(b:Nat) (cs:Array Value) (t:TypeId) (fz:Nat × Nat),w.heap[b]?=some (.cells cs t fz)->¬ t=64->(w.setCell ⟨T,2,none⟩ (.int .i64 (m:Nat))).heap[b]?=w.heap[b]?:=fun b cs t fz hb ht=>heap_setCell_other _ _ _ _ (ne_typ hb h.blk ht)
 refine ⟨block_setCell (i:=2) h.blk _,h.bT,own_block h.row fun g cur _ hc=>hb _ _ _ _ hc (by decide),h.cel,fun i hi=>own_block (h.kid i hi) fun g cur _ hc=>hb _ _ _ _ hc (by decide),h.apart,?_,h.bM⟩
 obtain ⟨es,cc,hm⟩:=h.map.map
 exact h.map.block (heap_setCell_other _ _ _ _ (fun e=>ne_map h.blk hm e.symm))
theorem TrD.cellSet (h:TrD w B T ns now N c M xs ks n f) (q o:Nat) (v:Value) (x:Tn) (hq:q < ns.length) (ho:o < 6) (h4:¬ o=4) (hk:x.ks=ns[q].ks)
  (hv:∀j u,(if j=o then some v else ([.int .i64 ns[q].kd,.string ⟨ns[q].ky.toArray⟩,.string ⟨ns[q].tx.toArray⟩,.int .i64 ns[q].nu,ks q,.int .i64 (ns[q].pl:Nat)]:List Value)[j]?)=some u->([.int .i64 x.kd,.string ⟨x.ky.toArray⟩,.string ⟨x.tx.toArray⟩,.int .i64 x.nu,ks q,.int .i64 (x.pl:Nat)]:List Value)[j]?=some u) :
  TrD (w.setCell ⟨N,q * 6+o,none⟩ v) B T (ns.set q x) now N c M (xs.set (q * 6+o) v) ks n f:=by
 obtain ⟨cur,hN⟩:=h.rowT
 have hb:∀(b:Nat) (cs:Array Value) (t:TypeId) (fz:Nat × Nat),w.heap[b]?=some (.cells cs t fz)->¬ t=33->(w.setCell ⟨N,q * 6+o,none⟩ v).heap[b]?=w.heap[b]?:=fun b cs t fz hb ht=>heap_setCell_other _ _ _ _ (ne_typ hb hN ht)
 have hxl:xs.length=ns.length * 6:=h.row.1
 have hlen:(ns.set q x).length=ns.length:=by simp
 refine ⟨?_,h.bT,?_,?_,?_,?_,?_,h.bM⟩
 ·rw [hlen];exact (hb _ _ _ _ h.blk (by decide)).trans h.blk
 ·rw [hlen]
  refine ⟨by rw [List.length_set];exact h.row.1,?_⟩
  rcases h.row.2 with ⟨e1,_⟩ | ⟨g',cap',cu,e1,hb,hgg,hn,hm,hs,ht⟩
  ·cases e1
  ·cases e1
   refine Or.inr ⟨N,c,cu.setIfInBounds (q * 6+o) v,rfl,hb,block_setCell hgg _,hn,hm,by simpa using hs,?_⟩
   rw [Array.toList_setIfInBounds,List.take_set,ht]
 ·intro i hi
  rw [hlen] at hi
  obtain ⟨h0,h1,h2,h3,h4',h5⟩:=h.cel i hi
  have keep:∀j,¬ j=q * 6+o->(xs.set (q * 6+o) v)[j]?=xs[j]?:=fun j hne=>List.getElem?_set_ne (fun e=>hne e.symm)
  by_cases he:i=q
  ·subst he
   simp only [List.getElem_set_self]
   have get:∀j u,j < 6->([.int .i64 ns[i].kd,.string ⟨ns[i].ky.toArray⟩,.string ⟨ns[i].tx.toArray⟩,.int .i64 ns[i].nu,ks i,.int .i64 (ns[i].pl:Nat)]:List Value)[j]?=some u->xs[i * 6+j]?=some u:=fun j u hj hu=>by
    match j,hj,hu with
    | 0,_,hu=>cases hu;exact h0
    | 1,_,hu=>cases hu;exact h1
    | 2,_,hu=>cases hu;exact h2
    | 3,_,hu=>cases hu;exact h3
    | 4,_,hu=>cases hu;exact h4'
    | 5,_,hu=>cases hu;exact h5
   have main:∀j (hj:j < 6),∀u,(xs.set (i * 6+o) v)[i * 6+j]?=some u->([.int .i64 x.kd,.string ⟨x.ky.toArray⟩,.string ⟨x.tx.toArray⟩,.int .i64 x.nu,ks i,.int .i64 (x.pl:Nat)]:List Value)[j]?=some u:=fun j hj u hu=>by
    apply hv j u
    by_cases hjo:j=o
    ·subst hjo
     rw [List.getElem?_set_self (by omega)] at hu
     rw [if_pos rfl];exact hu
    ·rw [keep _ (by omega)] at hu
     rw [if_neg hjo]
     have hlt:j < ([.int .i64 ns[i].kd,.string ⟨ns[i].ky.toArray⟩,.string ⟨ns[i].tx.toArray⟩,.int .i64 ns[i].nu,ks i,.int .i64 (ns[i].pl:Nat)]:List Value).length:=hj
     have:=get j _ hj (List.getElem?_eq_getElem hlt)
     rw [this] at hu
     rw [List.getElem?_eq_getElem hlt];exact hu
   have has:∀j,j < 6->∃u,(xs.set (i * 6+o) v)[i * 6+j]?=some u:=fun j hj=>⟨_,List.getElem?_eq_getElem (by rw [List.length_set];omega)⟩
   have fin:∀j (hj:j < 6),(xs.set (i * 6+o) v)[i * 6+j]?=([.int .i64 x.kd,.string ⟨x.ky.toArray⟩,.string ⟨x.tx.toArray⟩,.int .i64 x.nu,ks i,.int .i64 (x.pl:Nat)]:List Value)[j]?:=fun j hj=>by
    obtain ⟨u,hu⟩:=has j hj
    rw [hu,main j hj u hu]
   exact ⟨fin 0 (by omega),fin 1 (by omega),fin 2 (by omega),fin 3 (by omega),fin 4 (by omega),fin 5 (by omega)⟩
  ·have hqi:¬ q=i:=fun e=>he e.symm
   simp only [List.getElem_set_ne hqi]
   exact ⟨(keep _ (by omega)).trans h0,(keep _ (by omega)).trans h1,(keep _ (by omega)).trans h2,(keep _ (by omega)).trans h3,(keep _ (by omega)).trans h4',(keep _ (by omega)).trans h5⟩
 ·intro i hi
  rw [hlen] at hi
  by_cases he:i=q
  ·subst he
   simp only [List.getElem_set_self,hk]
   exact own_block (h.kid i hq) fun g cur _ hc=>hb _ _ _ _ hc (by decide)
  ·have hqi:¬ q=i:=fun e=>he e.symm
   simp only [List.getElem_set_ne hqi]
   exact own_block (h.kid i hi) fun g cur _ hc=>hb _ _ _ _ hc (by decide)
 ·intro i j g' hi hj
  rw [hlen] at hi hj
  exact h.apart i j g' hi hj
 ·obtain ⟨es,cc,hm⟩:=h.map.map
  exact h.map.block (heap_setCell_other _ _ _ _ (fun e=>ne_map hN hm e.symm))
end
def Tr (w:World) (B T:Nat) (ns:List Tn) (own:List Nat) (now:Nat):Prop:=∃N c M xs ks,TrD w B T ns now N c M xs ks (ns.length+own.length) (hold ns own)
theorem infoNode:(Tryz.prog.info? 33).map (fun i=>(i.zero,i.size,i.bytes))=some (some (.agg #[.int .i64 0,.string ⟨#[]⟩,.string ⟨#[]⟩,.int .i64 0,.slice none 0 0,.int .i64 0]),6,80):=by kernel_rfl
theorem infoInt:(Tryz.prog.info? 3).map (fun i=>(i.zero,i.size,i.bytes))=some (some (.int .i64 0),1,8):=by kernel_rfl
def AdPost (B T:Nat) (ns:List Tn) (own:List Nat) (now p:Nat) (x:Tn) (w:World) (e:Ending) (w':World):Prop:=e=.returned (.int .i64 (ns.length:Nat))/\Tr w' B T (addN ns p x) own now/\Fr B w w'
theorem frz_app {w w3:World} {o:Obj} {r:Option Nat} {T i:Nat} {cs:Array Value} {t:TypeId} (d:w.heap[T]?=some (.cells cs t (0,0))) (hg:(w.drew.alloc o).grownBy w3 r) (hne:some T ≠ r):w3.frozen? ⟨T,i,none⟩=false:=by
 have e0:(w.drew.alloc o).heap[T]?=some (.cells cs t (0,0)):=((World.grownBy_alloc w.drew o none).block T (blk_lt (w:=w.drew) d) (by simp)).trans d
 exact Lib.frozen_of_heap ((hg.block T (blk_lt e0) hne).trans e0) i
theorem cel_app {w w3:World} {o:Obj} {r:Option Nat} {T i:Nat} {v:Value} (d:w.cell? ⟨T,i,none⟩=some v) (hg:(w.drew.alloc o).grownBy w3 r) (hne:some T ≠ r):w3.cell? ⟨T,i,none⟩=some v:=hg.cell ((World.grownBy_alloc w.drew o none).cell d (by simp)) hne
theorem node_one (x:Tn):∀u ∈ ([.int .i64 x.kd,.string ⟨x.ky.toArray⟩,.string ⟨x.tx.toArray⟩,.int .i64 x.nu,.slice none 0 0,.int .i64 (x.pl:Nat)]:List Value),u.oneCell'=true:=by
 intro u hu
 simp only [List.mem_cons,List.not_mem_nil,or_false] at hu
 rcases hu with rfl | rfl | rfl | rfl | rfl | rfl <;> rfl
theorem int_one (q:Nat):∀u ∈ ([.int .i64 (q:Nat)]:List Value),u.oneCell'=true:=by
 intro u hu
 simp only [List.mem_cons,List.not_mem_nil,or_false] at hu
 rcases hu with rfl;rfl
theorem own_slice {w:World} {B:Nat} {e:TypeId} {s:Nat} {v:Value} {n:Nat} {xs:List Value} (h:w.ownsRow B e s v n xs):∃o c,v=.slice o n c:=by
 rcases h.2 with ⟨h1,h2⟩ | ⟨g,cap,cur,h1,_⟩
 ·exact ⟨none,0,by rw [h1,h2]⟩
 ·exact ⟨_,_,h1⟩
theorem addN_app (ns:List Tn) (p:Nat) (x:Tn) (hp:p < ns.length) (hp':p < (ns++[x]).length):(ns++[x]).set p { (ns++[x])[p] with ks:=(ns++[x])[p].ks++[ns.length] }=addN ns p x:=by
 unfold addN
 rw [List.getElem?_eq_getElem hp]
 simp only [List.getElem_append_left hp]
 rw [List.set_append_left _ _ hp]
theorem add_one {w w1 w3:World} {B T:Nat} {ns:List Tn} {now N c M:Nat} {xs:List Value} {ks:Nat->Value} {n:Nat} {f:Nat->List UInt8->Option (Nat × Bool)} {kd:Int} {k:List UInt8} {pl K g cap:Nat}
  (h:TrD w1 B T ns now N c M xs ks n f) (hf:Fr B w w1) (hK:w1.heap[K]?=some (.cells #[.string ⟨k.toArray⟩,.int .i64 (pl:Nat)] 133 (0,0)))
  (ho:w3.ownsRow B 33 6 (.slice (some ⟨g,0,none⟩) (ns.length+1) cap) (ns.length+1) (xs++[.int .i64 kd,.string ⟨k.toArray⟩,.string ⟨#[]⟩,.int .i64 0,.slice none 0 0,.int .i64 (pl:Nat)]))
  (hg:(w1.drew.alloc (.cells #[.int .i64 kd,.string ⟨k.toArray⟩,.string ⟨#[]⟩,.int .i64 0,.slice none 0 0,.int .i64 (pl:Nat)] 33)).grownBy w3 (Value.slice (some ⟨N,0,none⟩) ns.length c).ownBlock) :
  ∃(g' cap':Nat) (xs':List Value) (ks':Nat->Value),TrD (w3.setCell ⟨T,0,none⟩ (.slice (some ⟨g,0,none⟩) (ns.length+1) cap)) B T (ns++[⟨kd,k,[],0,[],pl⟩]) now g' cap' M xs' ks' n f/\Fr B w (w3.setCell ⟨T,0,none⟩ (.slice (some ⟨g,0,none⟩) (ns.length+1) cap))/\(w3.setCell ⟨T,0,none⟩ (.slice (some ⟨g,0,none⟩) (ns.length+1) cap)).heap[K]?=some (.cells #[.string ⟨k.toArray⟩,.int .i64 (pl:Nat)] 133 (0,0)):=by
 have hgE:w1.grownBy (w1.drew.alloc (.cells #[.int .i64 kd,.string ⟨k.toArray⟩,.string ⟨#[]⟩,.int .i64 0,.slice none 0 0,.int .i64 (pl:Nat)] 33)) none:=by
  have:=World.grownBy_alloc w1.drew (.cells #[.int .i64 kd,.string ⟨k.toArray⟩,.string ⟨#[]⟩,.int .i64 0,.slice none 0 0,.int .i64 (pl:Nat)] 33) none
  exact ⟨this.os,this.tape,this.output,this.size,this.block⟩
 obtain ⟨w2,hw2⟩:∃w2,w1.drew.alloc (.cells #[.int .i64 kd,.string ⟨k.toArray⟩,.string ⟨#[]⟩,.int .i64 0,.slice none 0 0,.int .i64 (pl:Nat)] 33)=w2:=⟨_,rfl⟩
 rw [hw2] at hg hgE
 have hg':w2.grownBy w3 (some N):=hg
 have h2:=h.keeps (keeps_gb hgE)
 obtain ⟨cN,hcN⟩:=h2.rowT
 have hB1:B<=w1.heap.size:=Nat.le_of_lt (Nat.lt_of_le_of_lt h.bT (blk_lt h.blk))
 have hB2:B<=w2.heap.size:=Nat.le_trans hB1 hgE.size
 have hbT:=(hg'.block T (blk_lt h2.blk) (by simp only [ne_eq,Option.some.injEq];exact ne_typ h2.blk hcN (by decide))).trans h2.blk
 have hK2:w2.heap[K]?=_:=(hgE.block K (blk_lt hK) (by simp)).trans hK
 have hK3:w3.heap[K]?=_:=(hg'.block K (blk_lt hK2) (by simp only [ne_eq,Option.some.injEq];exact ne_typ hK2 hcN (by decide))).trans hK2
 refine ⟨g,cap,_,_,h2.push (L:=ns.length+1) ⟨kd,k,[],0,[],pl⟩ rfl rfl ho hg',?_,(heap_setCell_other _ _ _ _ (ne_typ hK3 hbT (by decide))).trans hK3⟩
 exact ((hf.two (Fr.gb hgE hB1)).two (Fr.row hg' hB2 (own_typ h2.row rfl).1 hcN (Or.inr (Or.inl rfl)))).two (Fr.row (gb_setc w3 T 0 _) (Nat.le_trans hB2 hg'.size) h2.bT hbT (Or.inl rfl))
theorem add_two {w w1 w3:World} {B T:Nat} {ns:List Tn} {x:Tn} {now N c M m p:Nat} {xs ys:List Value} {ks:Nat->Value} {n:Nat} {f:Nat->List UInt8->Option (Nat × Bool)} {k:List UInt8} {pl K g cap m4:Nat} {o4:Option Addr} {hpl:p < (ns++[x]).length}
  (hp:p < ns.length) (h:TrD w1 B T (ns++[x]) now N c M xs ks n f) (hf:Fr B w w1) (hK:w1.heap[K]?=some (.cells #[.string ⟨k.toArray⟩,.int .i64 (pl:Nat)] 133 (0,0))) (hv:ks p=.slice o4 m m4) (hm:((ns++[x])[p]'hpl).ks.length=m) (hys:(((ns++[x])[p]'hpl).ks.map fun q=>Value.int .i64 (q:Nat))=ys)
  (ho:w3.ownsRow B 3 1 (.slice (some ⟨g,0,none⟩) (m+1) cap) (m+1) (ys++[.int .i64 (ns.length:Nat)]))
  (hg:(w1.drew.alloc (.cells #[.int .i64 (ns.length:Nat)] 3)).grownBy w3 (Value.slice o4 m m4).ownBlock) (hat:(Value.slice o4 m m4).ownBlock=some g\/g=(w1.drew.alloc (.cells #[.int .i64 (ns.length:Nat)] 3)).heap.size) :
  ∃(g' cap':Nat) (xs':List Value) (ks':Nat->Value),TrD (w3.setCell ⟨N,p * 6+4,none⟩ (.slice (some ⟨g,0,none⟩) (m+1) cap)) B T (addN ns p x) now g' cap' M xs' ks' n f/\Fr B w (w3.setCell ⟨N,p * 6+4,none⟩ (.slice (some ⟨g,0,none⟩) (m+1) cap))/\(w3.setCell ⟨N,p * 6+4,none⟩ (.slice (some ⟨g,0,none⟩) (m+1) cap)).heap[K]?=some (.cells #[.string ⟨k.toArray⟩,.int .i64 (pl:Nat)] 133 (0,0)):=by
 have hgE:w1.grownBy (w1.drew.alloc (.cells #[.int .i64 (ns.length:Nat)] 3)) none:=by
  have:=World.grownBy_alloc w1.drew (.cells #[.int .i64 (ns.length:Nat)] 3) none
  exact ⟨this.os,this.tape,this.output,this.size,this.block⟩
 obtain ⟨w2,hw2⟩:∃w2,w1.drew.alloc (.cells #[.int .i64 (ns.length:Nat)] 3)=w2:=⟨_,rfl⟩
 rw [hw2] at hg hgE hat
 rw [<-hv] at hg hat
 have h2:=h.keeps (keeps_gb hgE)
 obtain ⟨cN,hcN⟩:=h2.rowT
 have hB1:B<=w1.heap.size:=Nat.le_of_lt (Nat.lt_of_le_of_lt h.bT (blk_lt h.blk))
 have hB2:B<=w2.heap.size:=Nat.le_trans hB1 hgE.size
 have hne:∀(b:Nat) (cs:Array Value) (t:TypeId) (fz:Nat × Nat),w2.heap[b]?=some (.cells cs t fz)->¬ t=3->w3.heap[b]?=w2.heap[b]?:=fun b cs t fz hb ht=>hg.block b (blk_lt hb) (fun e=>by
  obtain ⟨cc,hcc⟩:=h2.kidOwn hpl e.symm
  exact ne_typ hb hcc ht rfl)
 have hK2:w2.heap[K]?=_:=(hgE.block K (blk_lt hK) (by simp)).trans hK
 have hK3:w3.heap[K]?=_:=(hne _ _ _ _ hK2 (by decide)).trans hK2
 have hN3:w3.heap[N]?=_:=(hne _ _ _ _ hcN (by decide)).trans hcN
 have h3:=h2.kidp (L:=m+1) p hpl ns.length (by rw [hm]) (by rw [hys];exact ho) hg (by rcases hat with e | e;exact Or.inl e;exact Or.inr (by omega))
 rw [addN_app ns p x hp hpl] at h3
 refine ⟨_,_,_,_,h3,?_,(heap_setCell_other _ _ _ _ (ne_typ hK3 hN3 (by decide))).trans hK3⟩
 have f2:Fr B w2 w3:=by
  cases hb:(ks p).ownBlock with
  | none=>rw [hb] at hg;exact Fr.gb hg hB2
  | some q =>
   rw [hb] at hg
   obtain ⟨hq,cc,hcc⟩:=own_typ (h2.kid p hpl) hb
   exact Fr.row hg hB2 hq hcc (Or.inr (Or.inr rfl))
 exact ((hf.two (Fr.gb hgE hB1)).two f2).two (Fr.row (gb_setc w3 N _ _) (Nat.le_trans hB2 hg.size) (own_typ h2.row rfl).1 hN3 (Or.inr (Or.inl rfl)))
set_option maxRecDepth 100000 in
set_option maxHeartbeats 3200000 in
theorem tAdd_any (B T:Nat) (ns:List Tn) (own:List Nat) (now p:Nat) (kd:Int) (k:List UInt8) (pl:Nat) (w:World) (h:Tr w B T ns own now) (W:WF ns own) (hp:p < ns.length) (hfree:kdAt ns p=0->kidO ns p k=none) (hsz:ns.length+own.length<=1000000) (hk:k.length<=1048576) :
  Calls Tryz.prog 102 #[.pointer (some ⟨T,0,none⟩),.int .i64 (p:Nat),.int .i64 kd,.agg #[.string ⟨k.toArray⟩,.int .i64 (pl:Nat)]] w (AdPost B T ns own now p ⟨kd,k,[],0,[],pl⟩ w):=by
 obtain ⟨N,c,M,xs,ks,hD⟩:=h
 obtain ⟨i0,hi0,hii⟩:=Option.map_eq_some_iff.1 infoNode
 simp only [Prod.mk.injEq] at hii
 obtain ⟨hz0,hz1,hzb⟩:=hii
 obtain ⟨j0,hj0,hjj⟩:=Option.map_eq_some_iff.1 infoInt
 simp only [Prod.mk.injEq] at hjj
 obtain ⟨hy0,hy1,hyb⟩:=hjj
 have hone:=node_one ⟨kd,k,[],0,[],pl⟩
 simp only [] at hone
 have hone2:=int_one ns.length
 obtain ⟨K,hKe⟩:∃K,w.heap.size=K:=⟨_,rfl⟩
 have hgK:w.grownBy (w.alloc (.cells #[.string ⟨k.toArray⟩,.int .i64 (pl:Nat)] 133)) none:=World.grownBy_alloc w _ none
 have hbK:=heap_alloc_new w (.cells #[.string ⟨k.toArray⟩,.int .i64 (pl:Nat)] 133)
 have hsK:(w.alloc (.cells #[.string ⟨k.toArray⟩,.int .i64 (pl:Nat)] 133)).heap.size=K+1:=by rw [World.size_alloc,hKe]
 rw [hKe] at hbK
 have hD1:=hD.keeps (keeps_gb hgK)
 have hBs:B<=w.heap.size:=Nat.le_of_lt (Nat.lt_of_le_of_lt hD.bT (blk_lt hD.blk))
 have HF1:Hid (Fr B w (w.alloc (.cells #[.string ⟨k.toArray⟩,.int .i64 (pl:Nat)] 133))):=Fr.gb hgK hBs
 obtain ⟨w1,hw1⟩:∃w1,w.alloc (.cells #[.string ⟨k.toArray⟩,.int .i64 (pl:Nat)] 133)=w1:=⟨_,rfl⟩
 rw [hw1] at hbK hsK hD1 HF1
 have hrow:=hD1.row
 obtain ⟨cN,hcN⟩:=hD1.rowT
 have HFAR:Hid (some T ≠ (Value.slice (some ⟨N,0,none⟩) ns.length c).ownBlock):=by
  show some T ≠ some N
  simp only [ne_eq,Option.some.injEq]
  exact ne_typ hD1.blk hcN (by decide)
 have d1:=hD1.cells.1
 have dA:(w1.alloc (.cells #[.int .i64 kd,.string ⟨k.toArray⟩,.string ⟨#[]⟩,.int .i64 0,.slice none 0 0,.int .i64 (pl:Nat)] 33)).cell? ⟨T,0,none⟩=some (.slice (some ⟨N,0,none⟩) ns.length c):=(World.grownBy_alloc w1 _ none).cell d1 (by simp)
 have HBT:Hid (w1.heap[T]?=some (.cells #[.slice (some ⟨N,0,none⟩) ns.length c,.map (some M),.int .i64 (now:Nat)] 64 (0,0))):=hD1.blk
 have HFK:Hid (some K ≠ (Value.slice (some ⟨N,0,none⟩) ns.length c).ownBlock):=by
  show some K ≠ some N
  simp only [ne_eq,Option.some.injEq]
  exact ne_typ hbK hcN (by decide)
 have k1:w1.cell? ⟨K,0,none⟩=some (.string ⟨k.toArray⟩):=by rw [Lib.cell_of_heap hbK];rfl
 have k2:w1.cell? ⟨K,1,none⟩=some (.int .i64 (pl:Nat)):=by rw [Lib.cell_of_heap hbK];rfl
 have HD1:Hid (TrD w1 B T ns now N c M xs ks (ns.length+own.length) (hold ns own)):=hD1
 have HBK:Hid (w1.heap[K]?=some (.cells #[.string ⟨k.toArray⟩,.int .i64 (pl:Nat)] 133 (0,0))):=hbK
 have HW:Hid (WF ns own):=W
 have HBE:Hid ((w1.drew.alloc (.cells #[.int .i64 kd,.string ⟨k.toArray⟩,.string ⟨#[]⟩,.int .i64 0,.slice none 0 0,.int .i64 (pl:Nat)] 33)).heap[K+1]?=some (.cells #[.int .i64 kd,.string ⟨k.toArray⟩,.string ⟨#[]⟩,.int .i64 0,.slice none 0 0,.int .i64 (pl:Nat)] 33 (0,0))):=by
  have:=heap_alloc_new w1.drew (.cells #[.int .i64 kd,.string ⟨k.toArray⟩,.string ⟨#[]⟩,.int .i64 0,.slice none 0 0,.int .i64 (pl:Nat)] 33)
  rw [show w1.drew.heap.size=K+1 from hsK] at this
  exact this
 have HFREE:Hid (kdAt ns p=0->kidO ns p k=none):=hfree
 have HP:Hid (p < ns.length):=hp
 clear hD hgK hbK hD1 hcN W hfree
 go_enter Tryz.func102,Tryz.ntmps102
 go_upto_region 2 with fail
 go_cut [] from 15 (fun wx=>∃(g cap:Nat) (xs':List Value) (ks':Nat->Value),TrD wx B T (ns++[⟨kd,k,[],0,[],pl⟩]) now g cap M xs' ks' (ns.length+own.length) (hold ns own)/\Fr B w wx/\wx.heap[K]?=some (.cells #[.string ⟨k.toArray⟩,.int .i64 (pl:Nat)] 133 (0,0)))
 case first =>
  go_region_law (refine step_append_lies _ (by rfl) _ _ _ (by rfl) B 33 i0 _ 6 80 Tryz.underlying22 hi0 hz0 hz1 hzb (by rfl) (by decide) (.slice (some ⟨N,0,none⟩) ns.length c) ns.length xs (by rfl) (hrow.drew.alloc _) ⟨K+1,0,none⟩ 1 1 [.int .i64 kd,.string ⟨k.toArray⟩,.string ⟨#[]⟩,.int .i64 0,.slice none 0 0,.int .i64 (pl:Nat)] (by rfl) (by rfl) (World.news_of_block HBE.out) hone (by omega) (by unfold maxLen;omega) (by omega) (by simp;omega) _ rfl ?_;intro g cap w3 hown3 hgrow hat hlt3;have hc3:w3.cell? ⟨T,0,none⟩=some (.slice (some ⟨N,0,none⟩) ns.length c):=cel_app d1 hgrow HFAR.out;have hfz3:w3.frozen? ⟨T,0,none⟩=false:=frz_app HBT.out hgrow HFAR.out)
  all_goals (
   go_wp2_with fail
   go_meet
   exact add_one HD1.out HF1.out HBK.out hown3 hgrow)
 case rest =>
  obtain ⟨N1,c1,xs1,ks1,hD2,hF2,hb2⟩:=hcut
  obtain ⟨L,hL⟩:∃L,(ns++[(⟨kd,k,[],0,[],pl⟩:Tn)]).length=L:=⟨_,rfl⟩
  have hpl:p < (ns++[(⟨kd,k,[],0,[],pl⟩:Tn)]).length:=by simp;omega
  have hpL:p < L:=by omega
  have d1':=hD2.cells.1
  have hrowk:=hD2.kid p hpl
  obtain ⟨o4,m4,hv4⟩:=own_slice hrowk
  obtain ⟨-,-,-,-,e4,-,ef⟩:=hD2.node p hpl
  obtain ⟨cN1,hcN1⟩:=hD2.rowT
  rw [hv4] at e4 hrowk
  have hm4:((ns++[(⟨kd,k,[],0,[],pl⟩:Tn)])[p]'hpl).ks.length<=1000000:=by
   have:=HW.out.len p
   unfold ksAt at this
   rw [List.getElem?_eq_getElem HP.out] at this
   simp only [] at this
   rw [List.getElem_append_left HP.out]
   omega
  obtain ⟨m,hm⟩:∃m,((ns++[(⟨kd,k,[],0,[],pl⟩:Tn)])[p]'hpl).ks.length=m:=⟨_,rfl⟩
  rw [hm] at hm4 hv4 e4 hrowk
  rw [hL] at d1'
  obtain ⟨ys,hys⟩:∃ys:List Value,(((ns++[(⟨kd,k,[],0,[],pl⟩:Tn)])[p]'hpl).ks.map fun q=>Value.int .i64 (q:Nat))=ys:=⟨_,rfl⟩
  rw [hys] at hrowk
  have HFA:Hid (some T ≠ (Value.slice o4 m m4).ownBlock):=by
   show _ ≠ _
   intro e
   obtain ⟨cc,hcc⟩:=(own_typ hrowk e.symm).2
   exact ne_typ hD2.blk hcc (by decide) rfl
  have HFN:Hid (some N1 ≠ (Value.slice o4 m m4).ownBlock):=by
   show _ ≠ _
   intro e
   obtain ⟨cc,hcc⟩:=(own_typ hrowk e.symm).2
   exact ne_typ hcN1 hcc (by decide) rfl
  have e4A:(wc.alloc (.cells #[.int .i64 (ns.length:Nat)] 3)).cell? ⟨N1,p * 6+4,none⟩=some (.slice o4 m m4):=(World.grownBy_alloc wc _ none).cell e4 (by simp)
  have d1A:(wc.alloc (.cells #[.int .i64 (ns.length:Nat)] 3)).cell? ⟨T,0,none⟩=some (.slice (some ⟨N1,0,none⟩) L c1):=(World.grownBy_alloc wc _ none).cell d1' (by simp)
  obtain ⟨Z,hZ⟩:∃Z,wc.heap.size=Z:=⟨_,rfl⟩
  have hBZ:B<=wc.heap.size:=Nat.le_of_lt (Nat.lt_of_le_of_lt hD2.bT (blk_lt hD2.blk))
  have HBZ:Hid ((wc.drew.alloc (.cells #[.int .i64 (ns.length:Nat)] 3)).heap[Z]?=some (.cells #[.int .i64 (ns.length:Nat)] 3 (0,0))):=by
   have:=heap_alloc_new wc.drew (.cells #[.int .i64 (ns.length:Nat)] 3)
   rw [show wc.drew.heap.size=Z from hZ] at this
   exact this
  have HN1:Hid (wc.heap[N1]?=some (.cells cN1 33 (0,0))):=hcN1
  have HD2:Hid (TrD wc B T (ns++[⟨kd,k,[],0,[],pl⟩]) now N1 c1 M xs1 ks1 (ns.length+own.length) (hold ns own)):=hD2
  have HF2:Hid (Fr B w wc):=hF2
  have HB2:Hid (wc.heap[K]?=some (.cells #[.string ⟨k.toArray⟩,.int .i64 (pl:Nat)] 133 (0,0))):=hb2
  have HV4:Hid (ks1 p=.slice o4 m m4):=hv4
  have HMM:Hid (((ns++[(⟨kd,k,[],0,[],pl⟩:Tn)])[p]'hpl).ks.length=m):=hm
  have HYS:Hid ((((ns++[(⟨kd,k,[],0,[],pl⟩:Tn)])[p]'hpl).ks.map fun q=>Value.int .i64 (q:Nat))=ys):=hys
  have HPL:Hid (p < (ns++[(⟨kd,k,[],0,[],pl⟩:Tn)]).length):=hpl
  have HLL:Hid ((ns++[(⟨kd,k,[],0,[],pl⟩:Tn)]).length=L):=hL
  clear hD2 hF2 hb2 hcN1 hv4 hm hys hL
  go_upto_region 3 with fail
  go_cut [] from 30 (fun wx=>∃(g cap:Nat) (xs':List Value) (ks':Nat->Value),TrD wx B T (addN ns p ⟨kd,k,[],0,[],pl⟩) now g cap M xs' ks' (ns.length+own.length) (hold ns own)/\Fr B w wx/\wx.heap[K]?=some (.cells #[.string ⟨k.toArray⟩,.int .i64 (pl:Nat)] 133 (0,0)))
  case first =>
   go_region_law (refine step_append_lies _ (by rfl) _ _ _ (by rfl) B 3 j0 _ 1 8 Tryz.underlying31 hj0 hy0 hy1 hyb (by rfl) (by decide) (.slice o4 m m4) m ys (by rfl) (hrowk.drew.alloc _) ⟨Z,0,none⟩ 1 1 [.int .i64 (ns.length:Nat)] (by rfl) (by rfl) (World.news_of_block HBZ.out) hone2 (by omega) (by unfold maxLen;omega) (by omega) (by simp;omega) _ rfl ?_;intro g cap w3 hown3 hgrow hat hlt3;have hc3:w3.cell? ⟨N1,p * 6+4,none⟩=some (.slice o4 m m4):=cel_app e4 hgrow HFN.out;have hfz3:w3.frozen? ⟨N1,p * 6+4,none⟩=false:=frz_app HN1.out hgrow HFN.out;have hcT3:w3.cell? ⟨T,0,none⟩=some (.slice (some ⟨N1,0,none⟩) L c1):=cel_app d1' hgrow HFA.out)
   all_goals (
    go_wp2_with fail
    go_meet
    exact add_two HP.out HD2.out HF2.out HB2.out HV4.out HMM.out HYS.out hown3 hgrow hat)
  case rest =>
   obtain ⟨N2,c2,xs2,ks2,hD3,hF3,hb3⟩:=hcut
   have hp3:p < (addN ns p ⟨kd,k,[],0,[],pl⟩).length:=by rw [addN_len];omega
   obtain ⟨t0,t1,-,-⟩:=hD3.cells
   obtain ⟨n0,-,-,-,-,-,-⟩:=hD3.node p hp3
   have kk:wc.cell? ⟨K,0,none⟩=some (.string ⟨k.toArray⟩):=by rw [Lib.cell_of_heap hb3];rfl
   have hkd:((addN ns p ⟨kd,k,[],0,[],pl⟩)[p]'hp3).kd=kdAt ns p:=by
    have h1:=kdAt_addN ns p ⟨kd,k,[],0,[],pl⟩ HP.out p
    rw [if_neg (by have:=HP.out;omega)] at h1
    rw [<-h1]
    unfold kdAt
    rw [List.getElem?_eq_getElem hp3]
   rw [hkd] at n0
   obtain ⟨z,hz⟩:∃z,kdAt ns p=z:=⟨_,rfl⟩
   obtain ⟨L3,hL3⟩:∃L,(addN ns p ⟨kd,k,[],0,[],pl⟩).length=L:=⟨_,rfl⟩
   have hpL3:p < L3:=by omega
   rw [hL3] at t0
   rw [hz] at n0
   have HF3:Hid (Fr B w wc):=hF3
   have HD3:Hid (TrD wc B T (addN ns p ⟨kd,k,[],0,[],pl⟩) now N2 c2 M xs2 ks2 (ns.length+own.length) (hold ns own)):=hD3
   have hBc:B<=wc.heap.size:=Nat.le_of_lt (Nat.lt_of_le_of_lt hD3.bT (blk_lt hD3.blk))
   obtain ⟨w5,hr5,hm5,hg5⟩:=(hD3.map.block (w':=wc.drew) rfl).put p k (by omega) hk (by omega) ns.length false
   unfold keyV at hr5
   have HM5:Hid (HM w5 M (ns.length+own.length+1) (putF (hold ns own) p k (ns.length,false))):=hm5
   have HG5:Hid (wc.drew.grownBy w5 (some M)):=hg5
   have HZ:Hid (kdAt ns p=z):=hz
   have HL3:Hid ((addN ns p ⟨kd,k,[],0,[],pl⟩).length=ns.length+1):=addN_len _ _ _
   clear hD3 hF3 hb3 hkd hL3 hz hm5 hg5 hp3
   by_cases hz0:z=0
   ·have hb:(z == 0)=true:=by simp [hz0]
    have HZ0:Hid (kdAt ns p=0):=HZ.out.trans hz0
    clear hz0
    go_wp2
    go_region
    all_goals (
     go_wp2
     refine bodyPost_ret (results_tmp (t:=8) rfl _ _ _) rfl ⟨rfl,⟨N2,c2,M,xs2,ks2,?_⟩,?_⟩
     ·rw [hold_add_table ns own p ⟨kd,k,[],0,[],pl⟩ rfl HP.out HW.out HZ0.out (HFREE.out HZ0.out),HL3.out]
      have h1:=(HD3.out.keeps (w':=wc.drew) (keeps_gb ⟨rfl,rfl,rfl,Nat.le_refl _,fun _ _ _=>rfl⟩)).mapd HM5.out HG5.out
      exact ⟨h1.blk,h1.bT,h1.row,h1.cel,h1.kid,h1.apart,h1.map.mono (by omega),h1.bM⟩
     ·obtain ⟨es,cc,hm0⟩:=HD3.out.map.map
      exact (HF3.out.two (Fr.gb (w':=wc.drew) ⟨rfl,rfl,rfl,Nat.le_refl _,fun _ _ _=>rfl⟩ hBc)).two (Fr.mapd HG5.out hBc HD3.out.bM hm0))
   ·have hb:(z == 0)=false:=by simp [hz0]
    have HZ0:Hid (¬ kdAt ns p=0):=by show ¬ _;rw [HZ.out];exact hz0
    clear hz0
    go_wp2
    refine bodyPost_ret (results_tmp (t:=8) rfl _ _ _) rfl ⟨rfl,⟨N2,c2,M,xs2,ks2,?_⟩,HF3.out⟩
    have h1:=HD3.out
    rw [hold_add_other ns own p ⟨kd,k,[],0,[],pl⟩ rfl HP.out HW.out HZ0.out,HL3.out]
    exact ⟨h1.blk,h1.bT,h1.row,h1.cel,h1.kid,h1.apart,h1.map.mono (by omega),h1.bM⟩
end Go.Proofs.YtbgnflcebafjjaaGreatDoor
